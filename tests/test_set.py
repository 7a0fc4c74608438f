import itertools
import unittest

from helper import RUN_LIST, as_bytes, list_of, long_pattern, sign_text
from signsearch.finds import set_of

# 0 to 3 the turns of one shape, 4 to 7 those of its mirrored one, then others near it.
TURNS = "".join([
    sign_text("A1", "###/#../.#."), sign_text("A2", ".##/#.#/..#"), sign_text("A3", ".#./..#/###"),
    sign_text("A4", "#../#.#/##."), sign_text("A5", "###/..#/.#."), sign_text("A6", "..#/#.#/.##"),
    sign_text("A7", ".#./#../###"), sign_text("A8", "##./#.#/#.."), sign_text("B1", "###/#../..#"),
    sign_text("B2", "###/#../.#./#.."),
])
CLASSES = list_of("A1", "A1a", "A2", "A10", "Aa1", "Aa2b", "Ab1", "B1", "Ba1")


def cells_of(rows):
    rows = rows.split("/")
    return len(rows[0]), len(rows), {(x, y) for y, row in enumerate(rows) for x, cell in enumerate(row) if cell == "#"}


def are_alike(rows, others):
    """Alike by the cells' places: any of the eight ways to swap and flip x and y."""
    width, height, ink = cells_of(rows)
    for swap, flip_x, flip_y in itertools.product((False, True), repeat=3):
        moved = set()
        for x, y in ink:
            x = width - 1 - x if flip_x else x
            y = height - 1 - y if flip_y else y
            moved.add((y, x) if swap else (x, y))
        size = (height, width) if swap else (width, height)
        if size + (moved,) == cells_of(others):
            return True
    return False


def right_shapes(width, height):
    rows = ["".join(row) for row in itertools.product(".#", repeat=width)]
    for shape in itertools.product(rows, repeat=height):
        columns = ["".join(column) for column in zip(*shape)]
        if all("#" in side for side in (shape[0], shape[-1], columns[0], columns[-1])):
            yield "/".join(shape)


class SetTest(unittest.TestCase):
    def check(self, signs, rows):
        for pattern, answer in rows:
            with self.subTest(pattern=pattern):
                self.assertEqual(set_of(0, as_bytes(signs), as_bytes(pattern)), answer)

    def test_names(self):
        self.check(RUN_LIST, [
            ("A1", [1, 0]), ("A3", [1, 2]), ("!A1", [2, 1, 2]), ("!A2", [2, 0, 2]),
            ("A4", [0]), ("B1", [0]), ("A1a", [0]), ("Aa1", [0]), ("A11", [0]), ("!A4", [3, 0, 1, 2]),
        ])

    def test_names_that_differ_in_one_part(self):
        self.check(CLASSES, [
            ("A1", [1, 0]), ("A1a", [1, 1]), ("A10", [1, 3]), ("Aa1", [1, 4]), ("A1b", [0]), ("Aa2", [0]),
            ("Aa2b", [1, 5]), ("!Aa2b", [8, 0, 1, 2, 3, 4, 6, 7, 8]),
        ])

    def test_each_sign(self):
        self.check(RUN_LIST, [(".", [3, 0, 1, 2]), ("!.", [0])])
        self.check(list_of("Q7"), [(".", [1, 0]), ("!.", [0])])

    def test_braces(self):
        self.check(RUN_LIST, [
            ("{A1}", [1, 0]), ("{A3,A1}", [2, 0, 2]), ("{A2,A2,A2}", [1, 1]), ("{A1,A2,A3}", [3, 0, 1, 2]),
            ("{A4,B1}", [0]), ("{A4,A2}", [1, 1]), ("{A4,A3,B1,A1}", [2, 0, 2]),
            ("!{A1}", [2, 1, 2]), ("!{A3,A1}", [1, 1]), ("!{A1,A2,A3}", [0]), ("!{A4,B1}", [3, 0, 1, 2]),
            ("!{A4,A2}", [2, 0, 2]),
        ])

    def test_sixteen_names_in_braces(self):
        names = ["A" + str(number) for number in range(1, 18)]
        pattern = "{" + ",".join(reversed(names[:16])) + "}"
        self.check(list_of(*names), [(pattern, [16] + list(range(16))), ("!" + pattern, [1, 16])])

    def test_classes(self):
        self.check(CLASSES, [
            ("A*", [4, 0, 1, 2, 3]), ("Aa*", [2, 4, 5]), ("Ab*", [1, 6]), ("B*", [1, 7]), ("Ba*", [1, 8]),
            ("C*", [0]), ("Ac*", [0]), ("!A*", [5, 4, 5, 6, 7, 8]), ("!Aa*", [7, 0, 1, 2, 3, 6, 7, 8]),
            ("!C*", [9, 0, 1, 2, 3, 4, 5, 6, 7, 8]),
        ])

    def test_alike_turned_and_mirrored(self):
        for number in range(1, 9):
            self.check(TURNS, [("=A" + str(number), [8, 0, 1, 2, 3, 4, 5, 6, 7])])
        self.check(TURNS, [
            ("!=A3", [2, 8, 9]), ("=B1", [1, 8]), ("=B2", [1, 9]), ("!=B2", [9, 0, 1, 2, 3, 4, 5, 6, 7, 8]),
        ])

    def test_alike_of_other_width_and_height(self):
        signs = "".join([
            sign_text("A1", "####"), sign_text("A2", "#/#/#/#"), sign_text("A3", "##/##"), sign_text("A4", "###"),
            sign_text("B1", "##./#.#"), sign_text("B2", "##/#./.#"), sign_text("B3", ".##/#.#"),
            sign_text("B4", "##/.#/#."), sign_text("C1", "#.##"), sign_text("C2", "##.#"), sign_text("C3", "#/#/./#"),
        ])
        self.check(signs, [
            ("=A1", [2, 0, 1]), ("=A2", [2, 0, 1]), ("=A3", [1, 2]), ("=A4", [1, 3]),
            ("=B1", [4, 4, 5, 6, 7]), ("=B4", [4, 4, 5, 6, 7]), ("=C1", [3, 8, 9, 10]), ("=C3", [3, 8, 9, 10]),
        ])

    def test_alike_with_the_same_shape(self):
        self.check(list_of("A1", "A2", "B1"), [("=A2", [3, 0, 1, 2]), ("!=A2", [0])])

    def test_alike_of_a_name_that_the_list_has_not(self):
        self.check(RUN_LIST, [("=A4", [0]), ("=Aa1", [0]), ("!=A4", [3, 0, 1, 2])])

    def test_all_small_shapes_alike(self):
        shapes = [shape for size in ((3, 2), (2, 3), (3, 3), (1, 3)) for shape in right_shapes(*size)]
        names = ["A" + str(number + 1) for number in range(len(shapes))]
        signs = as_bytes("".join(sign_text(name, shape) for name, shape in zip(names, shapes)))
        for name, shape in list(zip(names, shapes))[::9]:
            alike = [number for number, other in enumerate(shapes) if are_alike(shape, other)]
            self.assertEqual(set_of(0, signs, as_bytes("=" + name)), [len(alike)] + alike, shape)

    def test_each_atom_by_its_number(self):
        signs = as_bytes(RUN_LIST)
        pattern = as_bytes("A2 .. !A2 . A4")
        answers = [[1, 1], [-5], [2, 0, 2], [3, 0, 1, 2], [0], [-4], [-4]]
        for k, answer in enumerate(answers):
            self.assertEqual(set_of(k, signs, pattern), answer)
        self.assertEqual(set_of(4294967295, signs, pattern), [-4])

    def test_the_last_of_sixty_four_atoms(self):
        signs = as_bytes(RUN_LIST)
        pattern = as_bytes(" ".join(["."] * 63 + ["A3"]))
        self.assertEqual(set_of(62, signs, pattern), [3, 0, 1, 2])
        self.assertEqual(set_of(63, signs, pattern), [1, 2])
        self.assertEqual(set_of(64, signs, pattern), [-4])

    def test_the_longest_pattern(self):
        signs = as_bytes(list_of("A1", "A2", "A12"))
        pattern = as_bytes(long_pattern(4096))
        self.assertEqual(set_of(0, signs, pattern), [1, 1])
        self.assertEqual(set_of(63, signs, pattern), [2, 0, 2])

    def test_answers_are_lists_of_whole_numbers(self):
        for pattern in ("!A1", "!.", "a", ".."):
            answer = set_of(0, as_bytes(RUN_LIST), as_bytes(pattern))
            self.assertIs(type(answer), list)
            self.assertEqual([type(number) for number in answer], [int] * len(answer))


if __name__ == "__main__":
    unittest.main()
