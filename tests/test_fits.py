import random
import unittest

from helper import Fixed, RUN_LIST, as_bytes, list_of, long_pattern, parts_into, rows_of_signs, sign_text
from signsearch.finds import fits

# 0 and 4 alike, 1 and 3 alike.
SIGNS = (sign_text("A1", "##/#.") + sign_text("A2", "###") + sign_text("Aa1", "##/##") + sign_text("B1", "#/#/#")
         + sign_text("B2", ".#/##"))
# Atoms and their signs in this list.
ATOMS = {
    "A1": {0}, "A2": {1}, "B2": {4}, "Z9": set(), "=A1": {0, 4}, "=B1": {1, 3}, "=Z9": set(), "A*": {0, 1}, "Aa*": {2},
    "Z*": set(), ".": {0, 1, 2, 3, 4}, "{A1,B2}": {0, 4}, "{A2,Z9}": {1}, "{Z9}": set(),
    "!A1": {1, 2, 3, 4}, "!Z9": {0, 1, 2, 3, 4}, "!=A1": {1, 2, 3}, "!A*": {2, 3, 4}, "!.": set(), "!{A1,B2}": {1, 2, 3},
    "..": None,
}


class FitsTest(unittest.TestCase):
    def answer(self, pattern, numbers, signs=SIGNS):
        return fits(as_bytes(signs), as_bytes(pattern), list(numbers))

    def check(self, rows):
        for pattern, fitting, others in rows:
            for numbers in fitting:
                self.assertEqual(self.answer(pattern, numbers), [1], (pattern, numbers))
            for numbers in others:
                self.assertEqual(self.answer(pattern, numbers), [0], (pattern, numbers))

    def test_each_kind_of_atom(self):
        for atom, numbers in ATOMS.items():
            for number in range(5):
                expected = [1] if numbers is None or number in numbers else [0]
                self.assertEqual(self.answer(atom, [number]), expected, atom)
            self.assertEqual(self.answer(atom, []), [1] if numbers is None else [0], atom)

    def test_several_atoms(self):
        self.check([
            ("A1 A2", [(0, 1)], [(), (0,), (1,), (1, 0), (0, 0), (0, 1, 1), (0, 1, 0, 1), (2, 0, 1)]),
            ("A* .", [(0, 0), (1, 4)], [(2, 0), (0,), (0, 1, 2)]),
            ("!A1 !A1 !A1", [(1, 2, 3), (4, 4, 4)], [(0, 1, 2), (1, 0, 2), (1, 2, 0), (1, 2)]),
            ("=A1 =B1", [(0, 1), (4, 3), (0, 3)], [(1, 0), (2, 2)]),
        ])

    def test_a_run_of_no_sign_of_one_and_of_many(self):
        self.check([
            ("..", [(), (0,), (4, 3, 2, 1, 0)], []),
            ("A1 ..", [(0,), (0, 1), (0, 1, 2, 3)], [(), (1,), (1, 0)]),
            (".. A1", [(0,), (1, 0), (0, 0), (1, 2, 3, 0)], [(), (1,), (0, 1)]),
            ("A1 .. A2", [(0, 1), (0, 2, 1), (0, 0, 1, 1), (0, 1, 0, 1)], [(0,), (1,), (), (0, 1, 2), (2, 0, 1), (1, 0)]),
        ])

    def test_several_runs(self):
        self.check([
            (".. ..", [(), (0,), (0, 1, 2)], []),
            (".. .. .. A1 .. ..", [(0,), (1, 0), (0, 1), (1, 0, 1), (2, 2, 0, 2, 2)], [(), (1,), (2, 3, 4)]),
            (".. A1 .. A2 ..", [(0, 1), (2, 0, 2, 1, 2), (1, 0, 1)], [(), (1, 0), (0, 0), (1, 1)]),
            ("A1 .. A1 .. A1", [(0, 0, 0), (0, 1, 0, 1, 0), (0, 0, 0, 0)], [(0, 0), (0, 1, 0), (0, 0, 0, 1), (1, 0, 0, 0)]),
            ("A1 .. .. A1", [(0, 0), (0, 3, 0)], [(0,), (0, 3)]),
        ])

    def test_an_empty_row(self):
        self.check([("..", [()], []), (" ".join([".."] * 64), [()], []), ("A1", [], [()]), (".. . ..", [], [()]),
                    ("Z9", [], [()]), ("!.", [], [()])])
        self.assertEqual(self.answer("..", [], list_of("A1")), [1])
        self.assertEqual(self.answer("A1", [], list_of("A1")), [0])

    def test_an_atom_without_signs(self):
        rows = [(), (0,), (0, 1), (0, 1, 2)]
        self.check([("Z9", [], rows), (".. Z9", [], rows), ("Z9 ..", [], rows), (".. !. ..", [], rows), ("A1 {Z9} A2", [], rows)])

    def test_numbers_that_are_no_signs(self):
        for numbers in ((5,), (0, 5), (5, 0), (0, 1, 2, 3, 4, 5), (4294967295,), (0, 4294967295, 0), (0,) * 1000 + (5,)):
            for pattern in ("..", "A1", "!A1", "Z9", "A1 A2"):
                self.assertEqual(self.answer(pattern, numbers), [-4])
        self.assertEqual(self.answer("A1", [1], list_of("A1")), [-4])
        self.assertEqual(self.answer("A1", [0], list_of("A1")), [1])

    def test_the_last_of_512_signs(self):
        signs = list_of(*[capital + str(number) for capital in "ABC" for number in range(1, 201)][:512])
        self.assertEqual(self.answer("C112", [511], signs), [1])
        self.assertEqual(self.answer("C111", [511], signs), [0])
        self.assertEqual(self.answer("..", [512], signs), [-4])

    def test_sixty_four_atoms(self):
        self.check([
            (" ".join(["."] * 64), [(3,) * 64], [(3,) * 63, (3,) * 65]),
            (" ".join(["A1", ".."] * 32), [(0,) * 32, (0,) * 33, (0,) + (1, 0) * 31, (0,) * 40 + (1,)], [(0,) * 31, (1,) + (0,) * 40]),
            (" ".join(["..", "A1"] * 32), [(0,) * 32, (1,) + (0,) * 32, (1, 0) * 32], [(0,) * 31, (0,) * 32 + (1,)]),
            (" ".join([".."] * 63 + ["A1"]), [(0,), (1, 0)], [(), (1,)]),
        ])

    def test_the_longest_pattern(self):
        signs = list_of("A1", "A2", "A12")
        self.assertEqual(self.answer(long_pattern(4096), [1] + [0, 2, 2] * 21, signs), [1])
        self.assertEqual(self.answer(long_pattern(4096), [0] + [0, 2, 2] * 21, signs), [0])
        self.assertEqual(self.answer(long_pattern(4096), [1] + [0, 2, 1] * 21, signs), [0])

    def test_a_long_row_with_several_runs(self):
        pattern = ".. A1 A2 .. A1 A2 Aa1 .. B1"
        row = [0, 0, 1, 1] * 7000 + [0, 1, 2] + [0, 1] * 900 + [3]
        self.assertEqual(self.answer(pattern, row), [1])
        self.assertEqual(self.answer(pattern, row[:-1]), [0])
        self.assertEqual(self.answer(pattern, [0, 0, 1, 1] * 7000 + [3]), [0])
        self.assertEqual(self.answer(" ".join(["..", "A1"] * 32), [1, 0] * 15000), [1])
        self.assertEqual(self.answer(" ".join(["..", "A1"] * 32) + "", [1] * 29000 + [0] * 31), [0])
        self.assertEqual(self.answer(".. A1 .. A2 .. A1 .. A2", [0] * 15000 + [1] * 15000), [0])
        self.assertEqual(self.answer(".. A1 .. A2", [0] * 15000 + [1] * 15000), [1])

    def test_rows_at_the_largest_size(self):
        self.assertEqual(self.answer("..", [0] * 65536), [1])
        self.assertEqual(self.answer("A1 .. A2", [0] * 65535 + [1]), [1])
        self.assertEqual(self.answer("..", [0] * 65537), [-2])

    def test_all_short_rows_by_the_words(self):
        source = random.Random(3)
        rows = list(rows_of_signs(3, 4))
        signs = sign_text("A1", "##/#.") + sign_text("A2", "###") + sign_text("B1", "##/##")
        atoms = {"A1": {0}, "A*": {0, 1}, ".": {0, 1, 2}, "!A1": {1, 2}, "B1": {2}, "Z9": set(), "..": None, "{A1,B1}": {0, 2}}
        for step in range(60):
            chosen = [source.choice(list(atoms) + [".."] * 3) for number in range(source.randint(1, 5))]
            units = [atoms[atom] for atom in chosen]
            for row in rows:
                expected = [1] if parts_into(units, row) else [0]
                self.assertEqual(self.answer(" ".join(chosen), row, signs), expected, (chosen, row))

    def test_what_is_handed_in_stays(self):
        for pattern, numbers, answer in (("A1 .. A3", [0, 1, 2], [1]), ("A1 .. A3", [0, 1], [0]), ("A1 ", [0], [-10]),
                                         ("A1", [3], [-4]), ("..", [0] * 65537, [-2])):
            given = (Fixed(as_bytes(RUN_LIST)), Fixed(as_bytes(pattern)), Fixed(numbers))
            self.assertEqual(fits(*given), answer)
            self.assertEqual(given, (as_bytes(RUN_LIST), as_bytes(pattern), numbers))
            self.assertEqual(fits(*given), answer)

    def test_answers_are_lists_of_whole_numbers(self):
        for pattern, numbers in (("A1", [0]), ("A1", [1]), ("A1", [9]), ("a", [0])):
            answer = self.answer(pattern, numbers)
            self.assertIs(type(answer), list)
            self.assertEqual([type(number) for number in answer], [int])


if __name__ == "__main__":
    unittest.main()
