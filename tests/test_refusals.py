import unittest

from helper import RUN_LIST, as_bytes, long_pattern, long_text
from signsearch.finds import all_of, count, fits, judge, next_of, order, piece, place, set_of

WRONG_LIST = "sign A1/"
WRONG_PATTERN = "A1 "
WRONG_TEXT = "A1"
UNKNOWN_TEXT = "A1 B7/"
LARGEST = 1048576
TOO_LONG_LIST = "#" * (LARGEST + 1)
TOO_LONG_PATTERN = "a" * 4097


class FitsRefusalTest(unittest.TestCase):
    def check(self, signs, pattern, numbers, answer):
        self.assertEqual(fits(as_bytes(signs), as_bytes(pattern), list(numbers)), answer)

    def test_each_by_itself(self):
        self.check(TOO_LONG_LIST, "A1", [0], [-2])
        self.check(RUN_LIST, long_pattern(4097), [0], [-2])
        self.check(RUN_LIST, "..", [0] * 65537, [-2])
        self.check(WRONG_LIST, "A1", [0], [-3])
        self.check(RUN_LIST, WRONG_PATTERN, [0], [-10])
        self.check(RUN_LIST, "A1", [3], [-4])

    def test_sizes_at_their_edges(self):
        self.check("#" * LARGEST, "A1", [0], [-3])
        self.check(RUN_LIST, long_pattern(4096), [1] * 64, [0])
        self.check(RUN_LIST, "a" * 4096, [0], [-10])
        self.check(RUN_LIST, "..", [0] * 65536, [1])
        self.check(RUN_LIST, "..", [3] * 65536, [-4])

    def test_their_order(self):
        self.check(WRONG_LIST, WRONG_PATTERN, [9] * 65537, [-2])
        self.check(WRONG_LIST, TOO_LONG_PATTERN, [9], [-2])
        self.check(TOO_LONG_LIST, WRONG_PATTERN, [9], [-2])
        self.check(WRONG_LIST, WRONG_PATTERN, [9], [-3])
        self.check(WRONG_LIST, "A1", [9], [-3])
        self.check(RUN_LIST, WRONG_PATTERN, [9], [-10])
        self.check(RUN_LIST, WRONG_PATTERN, [], [-10])
        self.check("", "", [], [-3])
        self.check(RUN_LIST, "", [], [-10])


class NextRefusalTest(unittest.TestCase):
    def check(self, how, i, signs, text, pattern, answer):
        self.assertEqual(next_of(how, i, as_bytes(signs), as_bytes(text), as_bytes(pattern)), answer)

    def test_each_by_itself(self):
        self.check(0, 0, TOO_LONG_LIST, "A1/", "A1", [-2])
        self.check(0, 0, RUN_LIST, long_text(2049), "A1", [-2])
        self.check(0, 0, RUN_LIST, "A1/", long_pattern(4097), [-2])
        self.check(2, 0, RUN_LIST, "A1/", "A1", [-1])
        self.check(0, 0, WRONG_LIST, "A1/", "A1", [-3])
        self.check(0, 0, RUN_LIST, WRONG_TEXT, "A1", [-6])
        self.check(0, 0, RUN_LIST, "A1/", WRONG_PATTERN, [-10])
        self.check(0, 0, RUN_LIST, UNKNOWN_TEXT, "A1", [-9])
        self.check(0, 1, RUN_LIST, "A1/", "A1", [-4])
        self.check(0, 0, RUN_LIST, "A1/", "A2", [-5])

    def test_sizes_at_their_edges(self):
        self.check(0, 0, "#" * LARGEST, "A1/", "A1", [-3])
        self.check(0, 0, RUN_LIST, long_text(2046), "A1", [0, 0, 0])
        self.check(0, 0, RUN_LIST, long_text(2048), "A1", [-9])
        self.check(0, 0, RUN_LIST, "A" * 2048, "A1", [-6])
        self.check(0, 0, RUN_LIST, "A" * 2049, "A1", [-2])
        self.check(0, 0, RUN_LIST, "A1/", long_pattern(4096), [-5])
        self.check(0, 0, RUN_LIST, "A1/", "a" * 4096, [-10])

    def test_their_order(self):
        self.check(2, 9, WRONG_LIST, WRONG_TEXT, TOO_LONG_PATTERN, [-2])
        self.check(2, 9, WRONG_LIST, long_text(2049), WRONG_PATTERN, [-2])
        self.check(2, 9, TOO_LONG_LIST, WRONG_TEXT, WRONG_PATTERN, [-2])
        self.check(2, 0, RUN_LIST, long_text(2049), "A1", [-2])
        self.check(2, 9, WRONG_LIST, WRONG_TEXT, WRONG_PATTERN, [-1])
        self.check(2, 0, WRONG_LIST, "A1/", "A1", [-1])
        self.check(0, 9, WRONG_LIST, WRONG_TEXT, WRONG_PATTERN, [-3])
        self.check(0, 0, WRONG_LIST, WRONG_TEXT, "A1", [-3])
        self.check(0, 9, RUN_LIST, WRONG_TEXT, WRONG_PATTERN, [-6])
        self.check(0, 0, RUN_LIST, "B7", "A1", [-6])
        self.check(0, 9, RUN_LIST, UNKNOWN_TEXT, WRONG_PATTERN, [-10])
        self.check(0, 9, RUN_LIST, UNKNOWN_TEXT, "A1", [-9])
        self.check(0, 0, RUN_LIST, UNKNOWN_TEXT, "Z9", [-9])
        self.check(0, 1, RUN_LIST, "A1/", "A2", [-4])
        self.check(0, 0, RUN_LIST, ".../", "A2", [-4])
        self.check(1, 0, RUN_LIST, "A1? A2/", "A1", [-5])

    def test_a_sign_that_the_list_has_not(self):
        for text in ("B7/", "A1 B7/", "A1[nB7]/", "<A1 B7>/", "A1:(A1:B7)*A1/", "A4/", "A1a/", "Aa1/", "B7?/", "B7%1/", "B7~/",
                     "A11/", "A1/A1/.../B7/"):
            self.check(0, 0, RUN_LIST, text, "A1", [-9])
        for text in ("_1/", ".../"):
            self.check(0, 0, RUN_LIST, text, "A1", [-4])

    def test_nothing_is_kept(self):
        first = next_of(0, 0, as_bytes(RUN_LIST), as_bytes("A1 A2/"), as_bytes("A2"))
        self.assertEqual(first, [0, 1, 1])
        first.append(7)
        self.check(0, 0, "sign A1/#/", "A1 A2/", "A2", [-9])
        self.check(0, 0, RUN_LIST, "A2/", "A2", [0, 0, 0])
        self.check(0, 0, RUN_LIST, "A1 A2/", "A2", [0, 1, 1])


class SearchRefusalTest(unittest.TestCase):
    """The calls that tell all finds are refused alike."""

    def check(self, how, signs, text, pattern, answer):
        for call in (count, all_of, order):
            self.assertEqual(call(how, as_bytes(signs), as_bytes(text), as_bytes(pattern)), answer, call)

    def test_each_by_itself(self):
        self.check(0, TOO_LONG_LIST, "A1/", "A1", [-2])
        self.check(0, RUN_LIST, long_text(2049), "A1", [-2])
        self.check(0, RUN_LIST, "A1/", long_pattern(4097), [-2])
        for how in (2, 3, 4294967295):
            self.check(how, RUN_LIST, "A1/", "A1", [-1])
        self.check(0, WRONG_LIST, "A1/", "A1", [-3])
        self.check(0, RUN_LIST, WRONG_TEXT, "A1", [-6])
        self.check(0, RUN_LIST, "A1/", WRONG_PATTERN, [-10])
        self.check(0, RUN_LIST, UNKNOWN_TEXT, "A1", [-9])

    def test_no_find_is_not_refused(self):
        self.check(0, RUN_LIST, "A1/", "A2", [0])
        self.check(0, RUN_LIST, "_1/", "A2", [0])
        self.check(1, RUN_LIST, ".../", "A2", [0])

    def test_sizes_at_their_edges(self):
        self.check(0, "#" * LARGEST, "A1/", "A1", [-3])
        self.check(0, RUN_LIST, long_text(2046), "A2", [0])
        self.check(0, RUN_LIST, long_text(2048), "A1", [-9])
        self.check(0, RUN_LIST, "A" * 2048, "A1", [-6])
        self.check(0, RUN_LIST, "A" * 2049, "A1", [-2])
        self.check(0, RUN_LIST, "A1/", long_pattern(4096), [0])
        self.check(0, RUN_LIST, "A1/", "a" * 4096, [-10])

    def test_their_order(self):
        self.check(2, WRONG_LIST, WRONG_TEXT, TOO_LONG_PATTERN, [-2])
        self.check(2, WRONG_LIST, long_text(2049), WRONG_PATTERN, [-2])
        self.check(2, TOO_LONG_LIST, WRONG_TEXT, WRONG_PATTERN, [-2])
        self.check(2, RUN_LIST, "A1/", TOO_LONG_PATTERN, [-2])
        self.check(2, WRONG_LIST, WRONG_TEXT, WRONG_PATTERN, [-1])
        self.check(2, WRONG_LIST, "A1/", "A1", [-1])
        self.check(1, WRONG_LIST, WRONG_TEXT, WRONG_PATTERN, [-3])
        self.check(0, WRONG_LIST, WRONG_TEXT, "A1", [-3])
        self.check(0, RUN_LIST, WRONG_TEXT, WRONG_PATTERN, [-6])
        self.check(0, RUN_LIST, "B7", "A1", [-6])
        self.check(0, RUN_LIST, UNKNOWN_TEXT, WRONG_PATTERN, [-10])
        self.check(1, RUN_LIST, UNKNOWN_TEXT, "A1", [-9])


class PlaceRefusalTest(unittest.TestCase):
    """place and piece have an own limit of the text's size, and no pattern."""

    def check(self, number, signs, text, answer):
        for call in (place, piece):
            self.assertEqual(call(number, as_bytes(signs), as_bytes(text)), answer, call)

    def test_a_gap_without_a_place(self):
        given = (as_bytes(RUN_LIST), as_bytes("A1 _1 _1%123 _1%1234/"))
        self.assertEqual([piece(k, *given) for k in range(6)], [[0], [-5], [-5], [1], [-4], [-4]])
        # It isn't told of a text that's refused.
        self.assertEqual(piece(0, as_bytes(RUN_LIST), as_bytes("_1 B7/")), [-9])
        self.assertEqual(piece(0, as_bytes(RUN_LIST), as_bytes("_1")), [-6])
        self.assertEqual(piece(0, as_bytes(WRONG_LIST), as_bytes("_1/")), [-3])
        self.assertEqual(piece(0, as_bytes(RUN_LIST), as_bytes("_1/" * 21846)), [-2])

    def test_each_by_itself(self):
        self.check(0, TOO_LONG_LIST, "A1/", [-2])
        self.check(0, RUN_LIST, long_text(65537), [-2])
        self.check(0, WRONG_LIST, "A1/", [-3])
        self.check(0, RUN_LIST, WRONG_TEXT, [-6])
        self.check(0, RUN_LIST, UNKNOWN_TEXT, [-9])
        self.check(1, RUN_LIST, "A1/", [-4])

    def test_sizes_at_their_edges(self):
        self.check(0, "#" * LARGEST, "A1/", [-3])
        self.check(0, RUN_LIST, long_text(2049), [0])
        self.check(0, RUN_LIST, long_text(65535), [0])
        self.check(0, RUN_LIST, long_text(65536), [-9])
        self.check(0, RUN_LIST, "A" * 65536, [-6])
        self.check(0, RUN_LIST, "A" * 65537, [-2])

    def test_their_order(self):
        self.check(9, WRONG_LIST, long_text(65537), [-2])
        self.check(9, TOO_LONG_LIST, WRONG_TEXT, [-2])
        self.check(9, WRONG_LIST, WRONG_TEXT, [-3])
        self.check(9, WRONG_LIST, UNKNOWN_TEXT, [-3])
        self.check(9, RUN_LIST, WRONG_TEXT, [-6])
        self.check(0, RUN_LIST, "B7", [-6])
        self.check(9, RUN_LIST, UNKNOWN_TEXT, [-9])
        self.check(0, RUN_LIST, UNKNOWN_TEXT, [-9])


class SetRefusalTest(unittest.TestCase):
    def check(self, k, signs, pattern, answer):
        self.assertEqual(set_of(k, as_bytes(signs), as_bytes(pattern)), answer)

    def test_each_by_itself(self):
        self.check(0, "#" * (LARGEST + 1), "A1", [-2])
        self.check(0, RUN_LIST, long_pattern(4097), [-2])
        self.check(0, WRONG_LIST, "A1", [-3])
        self.check(0, RUN_LIST, WRONG_PATTERN, [-10])
        self.check(1, RUN_LIST, "A1", [-4])
        self.check(0, RUN_LIST, "..", [-5])

    def test_sizes_at_their_edges(self):
        # No right list is as long as that, so the longest that isn't too long is wrong.
        self.check(0, "#" * LARGEST, "A1", [-3])
        self.check(0, RUN_LIST, long_pattern(4096), [2, 1, 2])
        self.check(0, RUN_LIST, "a" * 4096, [-10])
        self.check(0, RUN_LIST, "a" * 4097, [-2])

    def test_too_long_before_all_others(self):
        self.check(0, WRONG_LIST, long_pattern(4097), [-2])
        self.check(0, WRONG_LIST, "a" * 4097, [-2])
        self.check(64, RUN_LIST, long_pattern(4097), [-2])
        self.check(0, "#" * (LARGEST + 1), WRONG_PATTERN, [-2])
        self.check(1, "#" * (LARGEST + 1), "A1", [-2])
        self.check(0, "#" * (LARGEST + 1), "..", [-2])

    def test_a_wrong_list_before_the_pattern(self):
        self.check(0, WRONG_LIST, WRONG_PATTERN, [-3])
        self.check(9, WRONG_LIST, WRONG_PATTERN, [-3])
        self.check(1, WRONG_LIST, "A1", [-3])
        self.check(0, WRONG_LIST, "..", [-3])
        self.check(0, "", "", [-3])

    def test_a_wrong_pattern_before_the_atom(self):
        self.check(9, RUN_LIST, WRONG_PATTERN, [-10])
        self.check(0, RUN_LIST, ".. ", [-10])
        self.check(0, RUN_LIST, "", [-10])
        self.check(0, RUN_LIST, " ".join([".."] * 65), [-10])
        self.check(0, RUN_LIST, "A1 " * 70, [-10])

    def test_no_such_atom(self):
        self.check(1, RUN_LIST, "..", [-4])
        self.check(2, RUN_LIST, "A1 ..", [-4])
        self.check(4294967295, RUN_LIST, "..", [-4])
        self.check(1, RUN_LIST, "A1 ..", [-5])

    def test_unknown_names_are_not_refused(self):
        self.check(0, RUN_LIST, "Z99", [0])
        self.check(0, RUN_LIST, "=Z99", [0])
        self.check(0, RUN_LIST, "{Z99,Z98}", [0])

    def test_judge_tells_the_place_with_its_refusal_alone(self):
        self.assertEqual(judge(as_bytes(WRONG_PATTERN)), [-6, 3])
        self.assertEqual(judge(as_bytes("a" * 4097)), [-2])

    def test_what_is_handed_in_stays(self):
        for k, signs, pattern in ((0, RUN_LIST, "!=A1 {A3,A1}"), (1, RUN_LIST, "!=A1 {A3,A1}"), (5, RUN_LIST, "A1"),
                                  (0, WRONG_LIST, "A1"), (0, RUN_LIST, WRONG_PATTERN), (0, RUN_LIST, ".."),
                                  (0, RUN_LIST, "a" * 4097)):
            list_given = as_bytes(signs)
            pattern_given = as_bytes(pattern)
            set_of(k, list_given, pattern_given)
            self.assertEqual(list_given, as_bytes(signs))
            self.assertEqual(pattern_given, as_bytes(pattern))

    def test_nothing_is_kept(self):
        first = set_of(0, as_bytes(RUN_LIST), as_bytes("!A1"))
        self.assertEqual(first, [2, 1, 2])
        first.append(7)
        self.check(0, "sign A1/#/", "!A1", [0])
        self.check(0, WRONG_LIST, "!A1", [-3])
        self.check(0, RUN_LIST, "!A1", [2, 1, 2])


if __name__ == "__main__":
    unittest.main()
