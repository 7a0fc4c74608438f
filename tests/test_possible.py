"""What a piece may have been, asked by next_of: a pattern of one name finds a place if that sign may stand there."""

import itertools
import random
import unittest

from helper import as_bytes, list_of, sign_text
from signsearch.finds import next_of, set_of

# Around A1: signs that differ from it in one cell of one quarter, and one that does in all of them.
QUARTERED = {
    "A1": "#..#/..../..../#..#",
    "A2": "##.#/..../..../#..#",
    "A3": "#.##/..../..../#..#",
    "A4": "#..#/..../#.../#..#",
    "A5": "#..#/..../...#/#..#",
    "A6": "####/..../#..#/#..#",
    "B1": "#..#/..../#..#",
    "B2": "#.#/.../.../#.#",
}
# 3 by 3: the middle row and column are of the lower and the right half.
MIDDLE = {
    "A1": "#.#/#.#/#.#",
    "A2": "###/#.#/#.#",
    "A3": "#.#/#.#/###",
    "A4": "#.#/###/#.#",
    "A5": "#.#/..#/#.#",
    "A6": "#.#/#../#.#",
}
SIDED = {
    "A1": "##.#/#..#",
    "A2": "#..#/#..#",
    "A3": "####/#..#",
    "A4": "#.##/#..#",
}


def list_text(shapes):
    return "".join(sign_text(name, rows) for name, rows in shapes.items())


def may_be(signs, text, place=0):
    """The numbers of the signs that the place may be."""
    signs = as_bytes(signs)
    names = [line.split()[1] for line in bytes(signs).decode().split("\n") if line.startswith("sign")]
    return [number for number, name in enumerate(names)
            if next_of(0, place, signs, as_bytes(text), as_bytes(name)) == [0, place, place]]


def seen(rows, mirrored):
    return [row[::-1] if mirrored else row for row in rows.split("/")]


def quarter(x, y, rows):
    left = x < len(rows[0]) // 2
    if y < len(rows) // 2:
        return "1" if left else "2"
    return "3" if left else "4"


def by_damage(shapes, name, mirrored, quarters):
    own = seen(shapes[name], mirrored)
    numbers = []
    for number, rows in enumerate(shapes.values()):
        other = seen(rows, mirrored)
        same_size = len(other) == len(own) and len(other[0]) == len(own[0])
        if same_size and all(own[y][x] == other[y][x] for y in range(len(own)) for x in range(len(own[0]))
                             if quarter(x, y, own) not in quarters):
            numbers.append(number)
    return numbers


def random_shape(source):
    while True:
        width, height = source.randint(1, 4), source.randint(1, 4)
        rows = ["".join(source.choice("##.") for x in range(width)) for y in range(height)]
        sides = (rows[0], rows[-1], "".join(row[0] for row in rows), "".join(row[-1] for row in rows))
        if all("#" in side for side in sides):
            return "/".join(rows)


ALL_QUARTERS = ["".join(some) for size in (1, 2, 3, 4) for some in itertools.combinations("1234", size)]


class PossibleTest(unittest.TestCase):
    def check(self, shapes, rows):
        signs = shapes if isinstance(shapes, str) else list_text(shapes)
        for text, numbers in rows:
            with self.subTest(text=text):
                self.assertEqual(may_be(signs, text + "/"), numbers)

    def test_neither_damaged_nor_uncertain(self):
        self.check(QUARTERED, [("A1", [0]), ("A3", [2]), ("A1~", [0]), ("B2", [7]), ("A1[nA2]", [0])])
        # Not one that looks the same either.
        self.check(list_of("A1", "A2"), [("A1", [0]), ("A2", [1]), ("A1~", [0])])

    def test_each_quarter_and_several(self):
        self.check(QUARTERED, [
            ("A1%1", [0, 1]), ("A1%2", [0, 2]), ("A1%3", [0, 3]), ("A1%4", [0, 4]),
            ("A1%12", [0, 1, 2]), ("A1%13", [0, 1, 3]), ("A1%24", [0, 2, 4]), ("A1%34", [0, 3, 4]), ("A1%14", [0, 1, 4]),
            ("A1%123", [0, 1, 2, 3]), ("A1%234", [0, 2, 3, 4]), ("A1%1234", [0, 1, 2, 3, 4, 5]),
            ("A2%1", [0, 1]), ("A2%2", [1]), ("A2%12", [0, 1, 2]), ("A6%1234", [0, 1, 2, 3, 4, 5]), ("A6%123", [4, 5]),
        ])

    def test_width_and_height_stay(self):
        self.check(QUARTERED, [("B1%1234", [6]), ("B2%1234", [7])])
        self.check({"A1": "##/##/##", "A2": "###/###", "A3": "#/#/#", "A4": "##/.#/#."}, [
            ("A1%1234", [0, 3]), ("A2%1234", [1]), ("A3%1234", [2])])

    def test_the_middle_of_an_odd_shape(self):
        self.check(MIDDLE, [
            ("A1%1", [0]), ("A1%2", [0, 1]), ("A1%3", [0, 4]), ("A1%4", [0, 2, 3, 5]),
            ("A1%12", [0, 1]), ("A1%34", [0, 2, 3, 4, 5]), ("A1%13", [0, 4]), ("A1%24", [0, 1, 2, 3, 5]),
        ])

    def test_mirrored_and_damaged_in_the_middle(self):
        # Seen mirrored, A5 lacks the right cell of the middle row and A6 the left one.
        self.check(MIDDLE, [
            ("A1~%1", [0]), ("A1~%2", [0, 1]), ("A1~%3", [0, 5]), ("A1~%4", [0, 2, 3, 4]), ("A1~%34", [0, 2, 3, 4, 5]),
        ])

    def test_mirrored_and_damaged_quarters_are_those_of_what_is_seen(self):
        self.check(SIDED, [
            ("A1%1", [0, 1]), ("A1%2", [0, 2]), ("A1~%1", [0, 2]), ("A1~%2", [0, 1]),
            ("A1%34", [0]), ("A1~%34", [0]), ("A1%12", [0, 1, 2, 3]), ("A1~%12", [0, 1, 2, 3]),
        ])
        self.check(QUARTERED, [("A1~%1", [0, 2]), ("A1~%2", [0, 1]), ("A1~%3", [0, 4]), ("A1~%4", [0, 3])])

    def test_one_cell_is_its_lower_right_quarter(self):
        signs = list_of("A1", "A2") + sign_text("B1", "##")
        self.check(signs, [("A1%1", [0, 1]), ("A1%123", [0, 1]), ("A2%4", [0, 1]), ("B1%1", [2])])

    def test_uncertain(self):
        signs = list_of("A1", "A1a", "A2", "A10", "Aa1", "Aa2b", "Ab1", "B1")
        self.check(signs, [
            ("A1?", [0, 1, 2, 3]), ("A10?", [0, 1, 2, 3]), ("A1a?", [0, 1, 2, 3]), ("Aa1?", [4, 5]), ("Ab1?", [6]),
            ("B1?", [7]), ("A1~?", [0, 1, 2, 3]),
        ])

    def test_damaged_and_uncertain(self):
        signs = {"A1": "##", "A2": "#", "B1": "##", "B2": "##/#.", "C1": "#.#/###", "C2": "#.#/.#.", "D1": "###/.#."}
        self.check(signs, [
            ("A1%1?", [0, 1, 2]), ("A1%1", [0, 2]), ("A1?", [0, 1]), ("B1%1?", [0, 2, 3]), ("B1?", [2, 3]),
            ("C2%2?", [4, 5, 6]), ("C2%2", [5, 6]), ("C2%34?", [4, 5]), ("D1%2?", [5, 6]), ("D1~%1?", [6]), ("D1~%12?", [5, 6]),
        ])

    def test_gaps_damaged_all_over(self):
        signs = {"A1": "#", "A2": "##", "A3": "#/#", "A4": "##/##", "A5": "###", "A6": "###/###/###", "A7": "#/#/#/#"}
        self.check(signs, [
            ("_1%1234", [0]), ("_2%1234", [0, 1, 2, 3]), ("_3%1234", [0, 1, 2, 3, 4, 5]),
            ("_4%1234", [0, 1, 2, 3, 4, 5, 6]), ("_32%1234", [0, 1, 2, 3, 4, 5, 6]),
        ])
        self.check({"A1": "##", "A2": "#/#"}, [("_1%1234", []), ("_2%1234", [0, 1])])
        large = {"A1": "#" * 32, "A2": "/".join(["#"] * 32), "A3": "#" * 31}
        self.check(large, [("_32%1234", [0, 1, 2]), ("_31%1234", [2]), ("_30%1234", [])])

    def test_other_gaps_are_no_places(self):
        for quarters in [""] + ["%" + some for some in ALL_QUARTERS[:-1]]:
            gap = "_9" + quarters
            for text in (gap + " A1/", gap + "*A1/", "<" + gap + " A1>/", "A1[n" + gap + "]/", gap + "/A1/"):
                signs = as_bytes(list_of("A1"))
                self.assertEqual(next_of(0, 0, signs, as_bytes(text), as_bytes("A1")), [0, 0, 0], text)
                self.assertEqual(next_of(0, 1, signs, as_bytes(text), as_bytes("A1")), [-4], text)
        self.assertEqual(next_of(0, 0, as_bytes(list_of("A1")), as_bytes("_9%123/"), as_bytes("A1")), [-4])
        self.assertEqual(next_of(0, 0, as_bytes(list_of("A1")), as_bytes("_9%1234/"), as_bytes("A1")), [0, 0, 0])

    def test_places_are_in_the_order_of_pieces(self):
        signs = list_of("A1", "A2", "A3", "A4", "A5", "A6", "A7", "A8")
        text = "A1[nA2[cA3];s_1*A4]:(A5:_1%1234)*A6 ... <A7 _2%123 A8>/A1/"
        numbers = [may_be(signs, text, place) for place in range(10)]
        self.assertEqual(numbers, [[0], [1], [2], [3], [4], list(range(8)), [5], [6], [7], [0]])
        self.assertEqual(next_of(0, 10, as_bytes(signs), as_bytes(text), as_bytes("A1")), [-4])

    def test_the_largest_shapes(self):
        full = ["#" * 32] * 32
        shapes = {"A1": "/".join(full)}
        for name, x, y in (("A2", 15, 15), ("A3", 16, 15), ("A4", 15, 16), ("A5", 16, 16)):
            rows = [list(row) for row in full]
            rows[y][x] = "."
            shapes[name] = "/".join("".join(row) for row in rows)
        self.check(shapes, [("A1%1", [0, 1]), ("A1%2", [0, 2]), ("A1%3", [0, 3]), ("A1%4", [0, 4]), ("A1~%1", [0, 2]),
                            ("A1~%3", [0, 4]), ("A1%23", [0, 2, 3])])

    def test_many_lists_by_the_words(self):
        source = random.Random(11)
        for step in range(25):
            shapes = {"A" + str(number): random_shape(source) for number in range(1, 6)}
            shapes.update({"B" + str(number): random_shape(source) for number in range(1, 4)})
            # One that differs in a cell from another, so that more signs look alike.
            shapes["B9"] = shapes["A1"][:1].replace(".", "#") + shapes["A1"][1:]
            for name in shapes:
                quarters = source.choice(ALL_QUARTERS)
                for mirrored in (False, True):
                    text = name + ("~" if mirrored else "") + "%" + quarters
                    damaged = by_damage(shapes, name, mirrored, quarters)
                    either = [number for number, other in enumerate(shapes) if number in damaged or other[0] == name[0]]
                    self.check(shapes, [(text, damaged), (text + "?", either)])

    def test_a_sign_may_always_be_itself(self):
        signs = as_bytes(list_text(QUARTERED))
        for number, name in enumerate(QUARTERED):
            self.assertEqual(set_of(0, signs, as_bytes(name)), [1, number])
            for quarters in ALL_QUARTERS:
                for mirror in ("", "~"):
                    self.assertIn(number, may_be(list_text(QUARTERED), name + mirror + "%" + quarters + "/"))


if __name__ == "__main__":
    unittest.main()
