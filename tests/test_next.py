import unittest

from helper import (Fixed, RUN_LIST, RUN_TEXT, RUN_TEXT_WITH_DAMAGE, SMALL_LIST, as_bytes, finds_of, is_text, long_pattern,
                    long_text, list_of, small_cases)
from signsearch.finds import next_of

NONE = [-5]
NO_PLACE = [-4]


class NextTest(unittest.TestCase):
    def answers(self, how, signs, text, pattern, places):
        given = (as_bytes(signs), as_bytes(text), as_bytes(pattern))
        return [next_of(how, i, *given) for i in range(places)]

    def check(self, signs, text, rows):
        """rows: how, a pattern, and for each place from the first to the last its find or NONE."""
        for how, pattern, finds in rows:
            with self.subTest(how=how, pattern=pattern):
                expected = [NONE if find is None else [0, *find] for find in finds] + [NO_PLACE, NO_PLACE]
                self.assertEqual(self.answers(how, signs, text, pattern, len(expected)), expected)

    def test_the_first_text_of_the_run(self):
        for how in (0, 1):
            self.check(RUN_LIST, RUN_TEXT, [
                (how, "A1 ..", [(0, 0), (2, 2), (2, 2), None]),
                (how, "A1 .. A3", [(0, 3), (2, 3), (2, 3), None]),
                (how, "!A1", [(1, 1), (1, 1), (3, 3), (3, 3)]),
                (how, "{A2,A3} A*", [(1, 2), (1, 2), None, None]),
            ])

    def test_the_second_text_of_the_run(self):
        self.check(RUN_LIST, RUN_TEXT_WITH_DAMAGE, [
            (0, "A3 A2", [(0, 1), None]), (1, "A3 A2", [None, None]),
            (0, "A2", [(1, 1), (1, 1)]), (1, "A2", [(1, 1), (1, 1)]),
            (0, "A1 A1", [None, None]), (1, "A1 A1", [None, None]),
        ])

    def test_how(self):
        for how in (2, 3, 4294967295):
            self.assertEqual(self.answers(how, RUN_LIST, RUN_TEXT, "A1", 6), [[-1]] * 6)

    def test_the_last_place_and_one_behind_it(self):
        given = (as_bytes(RUN_LIST), as_bytes(RUN_TEXT), as_bytes("."))
        self.assertEqual(next_of(0, 3, *given), [0, 3, 3])
        for i in (4, 5, 4294967295):
            self.assertEqual(next_of(0, i, *given), NO_PLACE)
            self.assertEqual(next_of(1, i, *given), NO_PLACE)

    def test_a_text_without_places(self):
        for text in (".../", "_1/", "_2%123 .../", "... .../.../"):
            for pattern in ("..", "A1", "Z9"):
                self.assertEqual(self.answers(0, RUN_LIST, text, pattern, 2), [NO_PLACE, NO_PLACE])

    def test_the_least_end(self):
        self.check(RUN_LIST, "A1 A2 A3 A2 A3/", [
            (0, "A1 .. A3", [(0, 2), None, None, None, None]),
            (0, ".. A3", [(0, 2), (1, 2), (2, 2), (3, 4), (4, 4)]),
            (0, "A2 ..", [(1, 1), (1, 1), (3, 3), (3, 3), None]),
            (0, ".. A2 ..", [(0, 1), (1, 1), (2, 3), (3, 3), None]),
            (0, ".. A2 .. A2 ..", [(0, 3), (1, 3), None, None, None]),
            (0, "..", [(0, 0), (1, 1), (2, 2), (3, 3), (4, 4)]),
            (0, ".. .", [(0, 0), (1, 1), (2, 2), (3, 3), (4, 4)]),
            (0, ". .. .", [(0, 1), (1, 2), (2, 3), (3, 4), None]),
        ])

    def test_a_find_may_start_within_another(self):
        self.check(RUN_LIST, "A1 A1 A1 A2/", [
            (0, "A1 A1", [(0, 1), (1, 2), None, None]),
            (0, "A1 .. A2", [(0, 3), (1, 3), (2, 3), None]),
        ])

    def test_a_break_within_a_stretch(self):
        self.check(RUN_LIST, "A1 ... A2/", [
            (0, "A1 A2", [(0, 1), None]), (1, "A1 A2", [None, None]),
            (0, "A1 A3 A2", [(0, 1), None]), (1, "A1 A3 A2", [None, None]),
            (0, "A1 A3 A1 A3 . .. A2", [(0, 1), None]),
            (0, "A1 .. A2", [(0, 1), None]), (1, "A1 .. A2", [None, None]),
            (0, "A1 .. A3 .. A2", [(0, 1), None]),
            (0, "A1 Z9 A2", [None, None]), (0, "A1 !. A2", [None, None]), (0, "A1 .. Z9 .. A2", [None, None]),
            (0, "A1 A3 Z9 A2", [None, None]), (0, "A1 A3 A3 Z9 A2", [None, None]), (0, "A1 Z9 A3 A2", [None, None]),
            (0, "A1 A3", [None, None]), (0, "A3 A2", [None, None]), (0, "A3", [None, None]),
            (0, "A1 ..", [(0, 0), None]), (1, "A1 ..", [(0, 0), None]), (0, ".. A2", [(0, 1), (1, 1)]),
            (1, ".. A2", [(1, 1), (1, 1)]),
        ])

    def test_several_breaks_beside_one_another(self):
        for text in ("A1 ... ... A2/", "A1/.../.../A2/", "A1 _1 ... _2 ... A2/"):
            self.check(RUN_LIST, text, [(0, "A1 A3 A3 A2", [(0, 1), None]), (0, "A1 A2", [(0, 1), None]), (1, "A1 A2", [None, None])])

    def test_a_break_before_a_stretch(self):
        self.check(RUN_LIST, "... A2 A1/", [
            (0, "A1 A2", [None, None]), (0, "A3 A2 A1", [None, None]), (0, "A2 A1", [(0, 1), None]), (1, "A2 A1", [(0, 1), None]),
            (0, ".. A2", [(0, 0), None]), (0, ". A2", [None, None]),
        ])

    def test_a_break_behind_a_stretch(self):
        self.check(RUN_LIST, "A1 A2 .../", [
            (0, "A2 A3", [None, None]), (0, "A1 A2 A3", [None, None]), (0, "A1 A2", [(0, 1), None]), (1, "A1 A2", [(0, 1), None]),
            (0, "A2 ..", [(1, 1), (1, 1)]), (1, "A2 ..", [(1, 1), (1, 1)]), (0, "A2 .", [None, None]),
        ])
        self.check(RUN_LIST, "A1 ... A2/", [(0, "A1 A2 A3", [None, None])])

    def test_breaks_on_all_sides(self):
        self.check(RUN_LIST, "... A1 ... A2 ... A1 .../", [
            (0, "A1 A3 A2", [(0, 1), None, None]), (0, "A2 A2 A1", [(1, 2), (1, 2), None]),
            (0, "A1 A3 A1", [None, None, None]), (0, "A1 A2 A1", [(0, 2), None, None]), (0, "A1 .. A1", [(0, 2), None, None]),
            (0, "A1 . . . . A1", [(0, 2), None, None]), (1, "A1", [(0, 0), (2, 2), (2, 2)]), (1, "A1 A2", [None, None, None]),
        ])

    def test_a_place_that_may_be_no_sign(self):
        # No sign of this list is as small as the gap.
        self.check(SMALL_LIST, "A1 _1%1234 A2/", [
            (0, "A1", [(0, 0), None, None]), (0, "A1 A2", [None, None, None]), (0, "A1 . A2", [None, None, None]),
            (0, "A1 .. A2", [None, None, None]), (0, "..", [(0, 0), (2, 2), (2, 2)]), (1, "..", [(0, 0), (2, 2), (2, 2)]),
            (0, ".", [(0, 0), (2, 2), (2, 2)]), (0, "!Z9", [(0, 0), (2, 2), (2, 2)]), (0, "A2", [(2, 2), (2, 2), (2, 2)]),
            (0, ".. A2", [(2, 2), (2, 2), (2, 2)]), (0, "Z9", [None, None, None]),
        ])

    def test_a_place_that_may_be_several_signs(self):
        self.check(SMALL_LIST, "A1? A1 _3%1234/", [
            (0, "A2", [(0, 0), (2, 2), (2, 2)]), (1, "A2", [None, None, None]),
            (0, "A1 A1", [(0, 1), (1, 2), None]), (1, "A1 A1", [None, None, None]),
            (0, "B1 A1", [None, None, None]), (0, "A2 A1 B1", [(0, 2), None, None]),
            (0, "A*", [(0, 0), (1, 1), (2, 2)]), (1, "A*", [(1, 1), (1, 1), None]), (1, ".", [(1, 1), (1, 1), None]),
            (1, "..", [(1, 1), (1, 1), None]), (1, "A1 ..", [(1, 1), (1, 1), None]), (1, ".. A1", [(1, 1), (1, 1), None]),
        ])

    def test_one_sign_alone_though_doubtful_is_sure(self):
        self.check(SMALL_LIST, "A1%1 B1? _1/", [(1, "A1 B1", [(0, 1), None]), (1, "B1", [(1, 1), (1, 1)])])
        self.check(list_of("A1"), "_1%1234 A1?/", [(1, "A1 A1", [(0, 1), None])])

    def test_one_place_is_one_sign_at_a_time(self):
        # What a place may be is chosen once, for one atom.
        self.check(SMALL_LIST, "A1?/", [(0, "A1 A2", [None]), (0, "A1", [(0, 0)]), (0, "A2", [(0, 0)]), (0, "!A1", [(0, 0)])])

    def test_runs_at_the_beginning_and_the_end(self):
        self.check(RUN_LIST, "A1 A2 A3/", [
            (0, ".. A2 ..", [(0, 1), (1, 1), None]), (0, ".. A3 ..", [(0, 2), (1, 2), (2, 2)]), (0, ".. A1 A2 ..", [(0, 1), None, None]),
            (0, ".. .. A2", [(0, 1), (1, 1), None]), (0, "A2 .. ..", [(1, 1), (1, 1), None]), (0, ".. Z9", [None, None, None]),
        ])

    def test_gaps_are_no_places(self):
        self.check(RUN_LIST, "_1 A1*_2 _3%123 A2 _1%12/", [(0, "A1 A2", [(0, 1), None]), (1, "A1 A2", [(0, 1), None]),
                                                        (0, "A1 . A2", [None, None])])

    def test_unknown_names_of_the_pattern(self):
        self.check(RUN_LIST, "A1 A2/", [(0, "Z9", [None, None]), (0, "!Z9 A2", [(0, 1), None]), (0, "{Z9,A2}", [(1, 1), (1, 1)])])

    def test_many_texts_by_the_words(self):
        found = 0
        for text, text_row, pattern, atoms in small_cases(1, 250):
            self.assertTrue(is_text(text), text)
            for how in (0, 1):
                finds = finds_of(how, 3, text_row, atoms)
                found += len(finds)
                places = len([unit for unit in text_row if unit is not None])
                expected = [[0, *min(find for find in finds if find[0] >= i)] if finds and finds[-1][0] >= i else NONE
                            for i in range(places)] + [NO_PLACE]
                self.assertEqual(self.answers(how, SMALL_LIST, text, pattern, places + 1), expected, (how, text, pattern))
        self.assertGreater(found, 200)

    def test_the_largest_texts_and_patterns(self):
        signs = list_of("A1", "A2", "A10", "A12", "A100")
        places = 2048 // 3
        given = (as_bytes(signs), as_bytes(long_text(2048)))
        last = "A100" if 2048 % 3 == 2 else "A10"
        self.assertEqual(next_of(0, 0, *given, as_bytes("A1 .. " + last)), [0, 0, places - 1])
        self.assertEqual(next_of(0, 0, *given, as_bytes(" ".join([".."] * 63 + [last]))), [0, 0, places - 1])
        self.assertEqual(next_of(0, 0, *given, as_bytes(" ".join(["..", "A1"] * 31 + ["..", "A2"]))), NONE)
        self.assertEqual(next_of(1, 5, *given, as_bytes(" ".join(["."] * 64))), [0, 5, 68])
        self.assertEqual(next_of(0, 0, *given, as_bytes(long_pattern(4096))), NONE)

    def test_many_breaks_and_a_long_pattern(self):
        text = ("A1 ... " * 31 + "A1/") * 9
        self.assertLess(len(text), 2048)
        pattern = " ".join(["A2", "A1"] * 31 + ["A2", "A3"])
        self.assertEqual(self.answers(0, RUN_LIST, text, pattern, 1), [NONE])
        self.assertEqual(self.answers(0, RUN_LIST, text, pattern.replace("A3", "A1")[3:], 1), [[0, 0, 1]])

    def test_what_is_handed_in_stays(self):
        for how, i, text, pattern, answer in ((0, 1, RUN_TEXT, "A1 ..", [0, 2, 2]), (1, 0, RUN_TEXT_WITH_DAMAGE, "A3 A2", NONE),
                                              (0, 0, RUN_TEXT, "a", [-10]), (0, 0, "A1", "A1", [-6]), (2, 0, RUN_TEXT, "A1", [-1]),
                                              (0, 0, "A1~%1?[nA2;s_1%1234]:(A3:A2)*A1 ... <A1>/", "=A1 .. !{A2,A3}", [0, 0, 5])):
            given = (Fixed(as_bytes(RUN_LIST)), Fixed(as_bytes(text)), Fixed(as_bytes(pattern)))
            self.assertEqual(next_of(how, i, *given), answer)
            self.assertEqual(given, (as_bytes(RUN_LIST), as_bytes(text), as_bytes(pattern)))
            self.assertEqual(next_of(how, i, *given), answer)

    def test_answers_are_lists_of_whole_numbers(self):
        for how, i, text, pattern in ((0, 0, RUN_TEXT, "A1"), (1, 3, RUN_TEXT, "A1"), (0, 4, RUN_TEXT, "A1"), (2, 0, "", "")):
            answer = next_of(how, i, as_bytes(RUN_LIST), as_bytes(text), as_bytes(pattern))
            self.assertIs(type(answer), list)
            self.assertEqual([type(number) for number in answer], [int] * len(answer))


if __name__ == "__main__":
    unittest.main()
