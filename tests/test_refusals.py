import unittest

from helper import RUN_LIST, as_bytes, long_pattern
from signsearch.finds import judge, set_of

WRONG_LIST = "sign A1/"
WRONG_PATTERN = "A1 "
LARGEST = 1048576


class RefusalTest(unittest.TestCase):
    def check(self, k, signs, pattern, answer):
        self.assertEqual(set_of(k, as_bytes(signs), as_bytes(pattern)), answer)

    def test_each_by_itself(self):
        self.check(0, "#" * (LARGEST + 1), "A1", [-2])
        self.check(0, RUN_LIST, long_pattern(4097), [-2])
        self.check(0, WRONG_LIST, "A1", [-3])
        self.check(0, RUN_LIST, WRONG_PATTERN, [-10])
        self.check(1, RUN_LIST, "A1", [-4])
        self.check(0, RUN_LIST, "..", [-5])

    def test_sizes_at_their_edges(self):
        # No right list is as long as that, so the longest that isn't too long is wrong.
        self.check(0, "#" * LARGEST, "A1", [-3])
        self.check(0, RUN_LIST, long_pattern(4096), [2, 1, 2])
        self.check(0, RUN_LIST, "a" * 4096, [-10])
        self.check(0, RUN_LIST, "a" * 4097, [-2])

    def test_too_long_before_all_others(self):
        self.check(0, WRONG_LIST, long_pattern(4097), [-2])
        self.check(0, WRONG_LIST, "a" * 4097, [-2])
        self.check(64, RUN_LIST, long_pattern(4097), [-2])
        self.check(0, "#" * (LARGEST + 1), WRONG_PATTERN, [-2])
        self.check(1, "#" * (LARGEST + 1), "A1", [-2])
        self.check(0, "#" * (LARGEST + 1), "..", [-2])

    def test_a_wrong_list_before_the_pattern(self):
        self.check(0, WRONG_LIST, WRONG_PATTERN, [-3])
        self.check(9, WRONG_LIST, WRONG_PATTERN, [-3])
        self.check(1, WRONG_LIST, "A1", [-3])
        self.check(0, WRONG_LIST, "..", [-3])
        self.check(0, "", "", [-3])

    def test_a_wrong_pattern_before_the_atom(self):
        self.check(9, RUN_LIST, WRONG_PATTERN, [-10])
        self.check(0, RUN_LIST, ".. ", [-10])
        self.check(0, RUN_LIST, "", [-10])
        self.check(0, RUN_LIST, " ".join([".."] * 65), [-10])
        self.check(0, RUN_LIST, "A1 " * 70, [-10])

    def test_no_such_atom(self):
        self.check(1, RUN_LIST, "..", [-4])
        self.check(2, RUN_LIST, "A1 ..", [-4])
        self.check(4294967295, RUN_LIST, "..", [-4])
        self.check(1, RUN_LIST, "A1 ..", [-5])

    def test_unknown_names_are_not_refused(self):
        self.check(0, RUN_LIST, "Z99", [0])
        self.check(0, RUN_LIST, "=Z99", [0])
        self.check(0, RUN_LIST, "{Z99,Z98}", [0])

    def test_judge_tells_the_place_with_its_refusal_alone(self):
        self.assertEqual(judge(as_bytes(WRONG_PATTERN)), [-6, 3])
        self.assertEqual(judge(as_bytes("a" * 4097)), [-2])

    def test_what_is_handed_in_stays(self):
        for k, signs, pattern in ((0, RUN_LIST, "!=A1 {A3,A1}"), (1, RUN_LIST, "!=A1 {A3,A1}"), (5, RUN_LIST, "A1"),
                                  (0, WRONG_LIST, "A1"), (0, RUN_LIST, WRONG_PATTERN), (0, RUN_LIST, ".."),
                                  (0, RUN_LIST, "a" * 4097)):
            list_given = as_bytes(signs)
            pattern_given = as_bytes(pattern)
            set_of(k, list_given, pattern_given)
            self.assertEqual(list_given, as_bytes(signs))
            self.assertEqual(pattern_given, as_bytes(pattern))

    def test_nothing_is_kept(self):
        first = set_of(0, as_bytes(RUN_LIST), as_bytes("!A1"))
        self.assertEqual(first, [2, 1, 2])
        first.append(7)
        self.check(0, "sign A1/#/", "!A1", [0])
        self.check(0, WRONG_LIST, "!A1", [-3])
        self.check(0, RUN_LIST, "!A1", [2, 1, 2])


if __name__ == "__main__":
    unittest.main()
