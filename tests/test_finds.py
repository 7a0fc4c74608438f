"""count and all_of: which finds there are."""

import unittest

from helper import (Fixed, RUN_LIST, RUN_TEXT, RUN_TEXT_WITH_DAMAGE, SMALL_LIST, as_bytes, finds_of, list_of, long_text,
                    sign_text, small_cases)
from signsearch.finds import all_of, count, next_of


def answer_of(finds):
    return [len(finds)] + [number for find in finds for number in find]


class FindsTest(unittest.TestCase):
    def finds(self, how, signs, text, pattern):
        """The answer of all_of, once it's seen that count tells the same number of finds."""
        given = (as_bytes(signs), as_bytes(text), as_bytes(pattern))
        answer = all_of(how, *given)
        self.assertEqual(count(how, *given), answer[:1])
        return answer

    def check(self, signs, text, rows):
        for how, pattern, finds in rows:
            with self.subTest(how=how, pattern=pattern):
                self.assertEqual(self.finds(how, signs, text, pattern), answer_of(finds))

    def check_both(self, signs, text, rows):
        for pattern, finds in rows:
            self.check(signs, text, [(0, pattern, finds), (1, pattern, finds)])


class RunTest(FindsTest):
    def test_the_first_text(self):
        for how in (0, 1):
            self.assertEqual(self.finds(how, RUN_LIST, RUN_TEXT, "A1 .."), [2, 0, 0, 2, 2])
            self.assertEqual(self.finds(how, RUN_LIST, RUN_TEXT, "A1 .. A3"), [2, 0, 3, 2, 3])
            self.assertEqual(self.finds(how, RUN_LIST, RUN_TEXT, "!A1"), [2, 1, 1, 3, 3])
            self.assertEqual(self.finds(how, RUN_LIST, RUN_TEXT, "{A2,A3} A*"), [1, 1, 2])

    def test_the_second_text(self):
        self.assertEqual(self.finds(0, RUN_LIST, RUN_TEXT_WITH_DAMAGE, "A3 A2"), [1, 0, 1])
        self.assertEqual(self.finds(1, RUN_LIST, RUN_TEXT_WITH_DAMAGE, "A3 A2"), [0])
        self.assertEqual(self.finds(0, RUN_LIST, RUN_TEXT_WITH_DAMAGE, "A2"), [1, 1, 1])
        self.assertEqual(self.finds(1, RUN_LIST, RUN_TEXT_WITH_DAMAGE, "A2"), [1, 1, 1])
        self.assertEqual(self.finds(0, RUN_LIST, RUN_TEXT_WITH_DAMAGE, "A1 A1"), [0])
        self.assertEqual(self.finds(1, RUN_LIST, RUN_TEXT_WITH_DAMAGE, "A1 A1"), [0])


class WrongWaysTest(FindsTest):
    """One test for each way to get finds wrong: an answer that the wrong way doesn't give."""

    def test_not_the_greatest_end(self):
        self.check_both(RUN_LIST, "A1 A3 A2 A3/", [("A1 .. A3", [(0, 1)]), ("A1 ..", [(0, 0)])])

    def test_no_start_twice(self):
        self.check_both(RUN_LIST, "A1 A3 A3 A3/", [("A1 .. A3", [(0, 1)]), ("A1 .. .. A3 ..", [(0, 1)])])

    def test_a_run_of_no_sign(self):
        self.check_both(RUN_LIST, "A1 A3/", [("A1 .. A3", [(0, 1)]), (".. A1 ..", [(0, 0)]), (".. A1 .. A3 ..", [(0, 1)])])

    def test_breaks_behind_the_end_are_not_looked_at(self):
        self.check_both(RUN_LIST, "A1 .../", [("A1 A2", []), ("A1 .", []), ("A1 ..", [(0, 0)]), ("A1", [(0, 0)])])
        self.check_both(RUN_LIST, "... A1/", [("A2 A1", []), ("A1", [(0, 0)])])

    def test_denied_takes_the_other_signs_of_the_list(self):
        # A3 isn't of the pattern, nor is it A1's fellow by any mark.
        self.check_both(RUN_LIST, "A1 A2 A3/", [("!A1", [(1, 1), (2, 2)]), ("!{A1,A2}", [(2, 2)]), ("!Z9", [(0, 0), (1, 1), (2, 2)])])

    def test_alike_with_mirrors(self):
        signs = sign_text("A1", "###/#../.#.") + sign_text("A2", "###/..#/.#.") + sign_text("A3", "#../#.#/##.")
        self.check_both(signs, "A1 A2 A3/", [("=A1", [(0, 0), (1, 1), (2, 2)]), ("!=A1", [])])

    def test_a_class_by_all_its_letters(self):
        signs = list_of("A1", "Aa1", "Ab1", "B1")
        self.check_both(signs, "A1 Aa1 Ab1 B1/", [("A*", [(0, 0)]), ("Aa*", [(1, 1)]), ("!A*", [(1, 1), (2, 2), (3, 3)])])
        self.check(signs, "A1? Aa1?/", [(0, "Ab1", []), (1, ". .", [(0, 1)])])

    def test_not_surely_over_two_signs(self):
        self.check(RUN_LIST, "A1%2 A2/", [(0, "{A1,A3} A2", [(0, 1)]), (1, "{A1,A3} A2", []), (1, ". A2", []), (1, ".. A2", [(1, 1)])])

    def test_starts_within_the_last_find(self):
        self.check_both(RUN_LIST, "A1 A1 A1/", [("A1 A1", [(0, 1), (1, 2)]), ("A1 .. A1", [(0, 1), (1, 2)])])
        self.check_both(RUN_LIST, "A1 A1 A2 A3/", [("A1 .. A3", [(0, 3), (1, 3)])])

    def test_an_unknown_name_of_the_pattern_is_not_refused(self):
        self.check_both(RUN_LIST, RUN_TEXT, [("Z9", []), ("=Z9", []), ("{Z9,A2}", [(1, 1)]), ("!Z9 A3", [(2, 3)])])

    def test_gaps_are_no_places(self):
        self.check_both(RUN_LIST, "_1 A1 _2%123 A2/", [("A1 A2", [(0, 1)]), (".", [(0, 0), (1, 1)])])


class MoreFindsTest(FindsTest):
    def test_no_find_at_all(self):
        self.check_both(RUN_LIST, RUN_TEXT, [("A3 A1", []), ("A2 A2", []), (". . . . .", []), ("!.", [])])

    def test_finds_that_overlap(self):
        self.check_both(RUN_LIST, "A1 A2 A1 A2 A1/", [
            ("A1 A2 A1", [(0, 2), (2, 4)]), ("A1 .. A1", [(0, 2), (2, 4)]), (". . .", [(0, 2), (1, 3), (2, 4)]),
            (".. A1", [(0, 0), (1, 2), (2, 2), (3, 4), (4, 4)]), ("A1 .. A2 .. A1", [(0, 2), (2, 4)]),
        ])

    def test_breaks(self):
        self.check(RUN_LIST, "... A1 ... A2 .../", [
            (0, "A1 A2", [(0, 1)]), (1, "A1 A2", []), (0, "A1 A3 A2", [(0, 1)]), (0, "A3 A1", []), (0, "A2 A3", []),
            (0, ".", [(0, 0), (1, 1)]), (1, ".", [(0, 0), (1, 1)]), (0, ". .", [(0, 1)]), (0, ". . . .", [(0, 1)]),
            (0, "A1 Z9 A2", []), (0, ".. A2", [(0, 1), (1, 1)]), (1, ".. A2", [(1, 1)]), (0, "A1 ..", [(0, 0)]),
        ])

    def test_places_that_may_be_no_sign(self):
        self.check(SMALL_LIST, "A1 _1%1234 A1 A2/", [
            (0, "..", [(0, 0), (2, 2), (3, 3)]), (1, "..", [(0, 0), (2, 2), (3, 3)]), (0, ".. A2", [(2, 3), (3, 3)]),
            (0, "A1 .. A2", [(2, 3)]), (0, "A1", [(0, 0), (2, 2)]), (0, "!A1", [(3, 3)]), (0, "A1 . A1", []),
        ])
        self.check(SMALL_LIST, "_1%1234 ... _1%1234/", [(0, "..", []), (1, "..", []), (0, ".", [])])

    def test_a_run_alone(self):
        self.check_both(RUN_LIST, RUN_TEXT, [("..", [(0, 0), (1, 1), (2, 2), (3, 3)]), (".. ..", [(0, 0), (1, 1), (2, 2), (3, 3)])])
        self.check(RUN_LIST, RUN_TEXT_WITH_DAMAGE, [(0, "..", [(0, 0), (1, 1)]), (1, "..", [(1, 1)])])

    def test_a_text_of_lost_signs_alone(self):
        for text in (".../", "... ... .../", ".../.../", "_1 ... _2%12/"):
            self.check_both(RUN_LIST, text, [("..", []), ("A1", []), (".", []), ("Z9", [])])

    def test_a_text_without_places(self):
        self.check_both(RUN_LIST, "_1/", [("..", []), ("A1", [])])

    def test_nests_piles_and_rings(self):
        self.check_both(RUN_LIST, "A1[nA2;sA3]&A1 <A2 (A3:A1)*A2>/A3/", [
            ("A1 A2 A3 A1", [(0, 3), (3, 6)]), ("A2 A3", [(1, 2), (4, 5), (7, 8)]), ("A1 A2", [(0, 1), (3, 4), (6, 7)]),
        ])

    def test_finds_go_over_lines(self):
        self.check_both(RUN_LIST, "A1/A2/A3/", [("A1 A2 A3", [(0, 2)]), ("A1 .. A3", [(0, 2)])])

    def test_every_place_of_the_largest_text(self):
        given = (as_bytes(list_of("A1", "A2", "A100")), as_bytes(long_text(2048)))
        places = 2048 // 3
        self.assertEqual(count(0, *given, as_bytes("..")), [places])
        self.assertEqual(all_of(1, *given, as_bytes(".")), answer_of([(i, i) for i in range(places)]))
        self.assertEqual(all_of(0, *given, as_bytes(".. A100")), answer_of([(i, places - 1) for i in range(places)]))
        self.assertEqual(all_of(0, *given, as_bytes(" ".join(["..", "A1"] * 31 + ["..", "A2"]))), [0])
        self.assertEqual(count(1, *given, as_bytes(" ".join(["."] * 64))), [places - 63])


class PromiseTest(FindsTest):
    def test_many_texts_by_the_words(self):
        total = 0
        for text, text_row, pattern, atoms in small_cases(2, 400):
            for how in (0, 1):
                finds = finds_of(how, 3, text_row, atoms)
                total += len(finds)
                self.assertEqual(self.finds(how, SMALL_LIST, text, pattern), answer_of(finds), (how, text, pattern))
        self.assertGreater(total, 300)

    def test_what_is_surely_a_find_is_perhaps_one(self):
        sure = 0
        for text, text_row, pattern, atoms in small_cases(3, 400):
            perhaps = self.finds(0, SMALL_LIST, text, pattern)[1:]
            surely = self.finds(1, SMALL_LIST, text, pattern)[1:]
            ends = dict(zip(perhaps[::2], perhaps[1::2]))
            sure += len(surely)
            for start, end in zip(surely[::2], surely[1::2]):
                self.assertLessEqual(ends[start], end, (text, pattern))
        self.assertGreater(sure, 100)

    def test_both_are_the_same_without_doubt(self):
        alike = 0
        for text, text_row, pattern, atoms in small_cases(4, 1200):
            if "%" not in text and "?" not in text and "..." not in text:
                alike += 1
                self.assertEqual(self.finds(0, SMALL_LIST, text, pattern), self.finds(1, SMALL_LIST, text, pattern), text)
        self.assertGreater(alike, 100)

    def test_next_tells_the_same_finds(self):
        for text, text_row, pattern, atoms in small_cases(5, 150):
            given = (as_bytes(SMALL_LIST), as_bytes(text), as_bytes(pattern))
            finds = []
            i = 0
            while next_of(0, i, *given)[0] == 0:
                finds.append(next_of(0, i, *given)[1:])
                i = finds[-1][0] + 1
            self.assertEqual(all_of(0, *given), answer_of(finds))

    def test_what_is_handed_in_stays(self):
        for call in (count, all_of):
            for how, text, pattern in ((0, RUN_TEXT, "A1 .."), (1, RUN_TEXT_WITH_DAMAGE, "=A3 .. !A2"), (2, RUN_TEXT, "A1"),
                                       (0, RUN_TEXT, "a"), (0, "A1", "A1"), (0, "B7/", "A1"), (0, "A1/" * 700, "A1")):
                given = (Fixed(as_bytes(RUN_LIST)), Fixed(as_bytes(text)), Fixed(as_bytes(pattern)))
                first = call(how, *given)
                self.assertEqual(given, (as_bytes(RUN_LIST), as_bytes(text), as_bytes(pattern)))
                self.assertEqual(call(how, *given), first)

    def test_nothing_is_kept(self):
        for call, answer in ((count, [2]), (all_of, [2, 0, 0, 2, 2])):
            given = (as_bytes(RUN_LIST), as_bytes(RUN_TEXT), as_bytes("A1 .."))
            first = call(0, *given)
            self.assertEqual(first, answer)
            first.append(7)
            self.assertEqual(call(0, as_bytes(list_of("A1")), as_bytes(RUN_TEXT), as_bytes("A1")), [-9])
            self.assertEqual(call(0, *given), answer)

    def test_answers_are_lists_of_whole_numbers(self):
        for call in (count, all_of):
            for how, text, pattern in ((0, RUN_TEXT, "A1 .."), (1, RUN_TEXT, "Z9"), (2, RUN_TEXT, "A1"), (0, RUN_TEXT, "")):
                answer = call(how, as_bytes(RUN_LIST), as_bytes(text), as_bytes(pattern))
                self.assertIs(type(answer), list)
                self.assertEqual([type(number) for number in answer], [int] * len(answer))


if __name__ == "__main__":
    unittest.main()
