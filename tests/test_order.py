import functools
import unittest

from helper import (Fixed, RUN_LIST, RUN_TEXT, RUN_TEXT_WITH_DAMAGE, SMALL_LIST, as_bytes, finds_of, list_of, long_text,
                    small_cases)
from signsearch.finds import all_of, order


def pairs_of(answer):
    return list(zip(answer[1::2], answer[2::2]))


def following(text_row, end):
    at = [number for number, unit in enumerate(text_row) if unit is not None][end]
    behind = text_row[at + 1:at + 17]
    return [min(unit) + 1 if unit else 0 for unit in behind]


def compare(text_row):
    """By the words: the first that differs, what ends before the other, the start."""
    def before(find, other):
        left, right = following(text_row, find[1]), following(text_row, other[1])
        for one, two in zip(left, right):
            if one != two:
                return one - two
        return len(left) - len(right) or find[0] - other[0]
    return functools.cmp_to_key(before)


class OrderTest(unittest.TestCase):
    def check(self, text, rows, signs=SMALL_LIST):
        for how, pattern, finds in rows:
            with self.subTest(text=text, how=how, pattern=pattern):
                given = (as_bytes(signs), as_bytes(text), as_bytes(pattern))
                answer = order(how, *given)
                self.assertEqual(pairs_of(answer), finds)
                self.assertEqual(answer[0], len(finds))
                self.assertEqual(len(answer), 1 + 2 * len(finds))
                self.assertEqual(sorted(finds), pairs_of(all_of(how, *given)))

    def test_the_run(self):
        for how in (0, 1):
            self.assertEqual(order(how, as_bytes(RUN_LIST), as_bytes(RUN_TEXT), as_bytes("A1 ..")), [2, 0, 0, 2, 2])
        self.check(RUN_TEXT, [(0, "A1 .. A3", [(0, 3), (2, 3)]), (0, "!A1", [(3, 3), (1, 1)]), (0, "{A2,A3} A*", [(1, 2)]),
                              (0, "..", [(3, 3), (1, 1), (0, 0), (2, 2)])], RUN_LIST)
        self.check(RUN_TEXT_WITH_DAMAGE, [(0, "A3 A2", [(0, 1)]), (1, "A3 A2", []), (0, "A2", [(1, 1)]), (0, "A1 A1", []),
                                          (0, "..", [(1, 1), (0, 0)])], RUN_LIST)

    def test_no_find(self):
        self.check("A1 A2/", [(0, "B1", []), (1, "B1", [])])
        self.check(".../", [(0, "..", [])])

    def test_the_first_that_follows_differs(self):
        self.check("B1 B1 B1 A2 B1 A1/", [(0, "B1", [(4, 4), (2, 2), (1, 1), (0, 0)])])
        self.check("B1 A2 A1 B1 A1 A2/", [(0, "B1", [(3, 3), (0, 0)]), (1, "B1", [(3, 3), (0, 0)])])

    def test_the_sixteenth_differs(self):
        same = " A1" * 15
        self.check("B1" + same + " A2 B1" + same + " A1 A2/", [(0, "B1", [(17, 17), (0, 0)])])
        self.check("B1" + same + " A1 B1" + same + " A2 A2/", [(0, "B1", [(0, 0), (17, 17)])])

    def test_only_the_seventeenth_differs(self):
        same = " A1" * 16
        self.check("B1" + same + " A2 B1" + same + " A1 A1/", [(0, "B1", [(0, 0), (18, 18)])])
        self.check("B1" + same + " A2 B1" + same + "/", [(0, "B1", [(0, 0), (18, 18)])])

    def test_one_that_ends_before_the_other(self):
        self.check("B1 A1 A1 B1 A1/", [(0, "B1", [(3, 3), (0, 0)])])
        self.check("B1 A1 B1/", [(0, "B1", [(2, 2), (0, 0)])])
        # A longer one with a lesser number stands first all the same.
        self.check("B1 A1 B1 A2/", [(0, "B1", [(0, 0), (2, 2)])])
        same = " A1" * 15
        self.check("B1" + same + " A1 B1" + same + "/", [(0, "B1", [(17, 17), (0, 0)])])

    def test_a_break_among_what_follows(self):
        self.check("B1 ... A1 B1 A1/", [(0, "B1", [(0, 0), (2, 2)])])
        self.check("B1 A1 ... A2 B1 A1 A1/", [(0, "B1", [(0, 0), (3, 3)])])
        self.check("B1 A1 A1 B1 A1 .../", [(0, "B1", [(3, 3), (0, 0)])])
        self.check("B1 ... B1/", [(0, "B1", [(1, 1), (0, 0)])])

    def test_two_breaks_are_two(self):
        self.check("B1 ... A1 B1 ... ... A1/", [(0, "B1", [(2, 2), (0, 0)])])
        self.check("B1 ... ... B1 .../", [(0, "B1", [(1, 1), (0, 0)])])

    def test_a_break_is_one_of_sixteen(self):
        same = " ..." + " A1" * 15
        self.check("B1" + same + " A2 B1" + same + " A1/", [(0, "B1", [(0, 0), (17, 17)])])
        same = " ..." + " A1" * 14
        self.check("B1" + same + " A2 B1" + same + " A1/", [(0, "B1", [(16, 16), (0, 0)])])

    def test_a_break_before_the_end_does_not_follow(self):
        self.check("B1 ... A2 A2 B1 A2 A1/", [(0, "B1 .. A2", [(3, 4), (0, 1)])])

    def test_a_place_that_may_be_no_sign(self):
        self.check("B1 _1%1234 B1 A1/", [(0, "B1", [(0, 0), (2, 2)])])
        self.check("B1 A1 B1 _1%1234/", [(0, "B1", [(2, 2), (0, 0)])])
        # It weighs as much as a break.
        self.check("B1 _1%1234 A2 B1 ... A1 B1 _1%1234 A1/", [(0, "B1", [(5, 5), (3, 3), (0, 0)])])

    def test_a_place_that_may_be_several_signs(self):
        # The least of them weighs.
        self.check("B1 A2 B1 A2? B1 A1/", [(0, "B1", [(4, 4), (2, 2), (0, 0)])])
        self.check("B1 _3%1234 A2 B1 A1 A1/", [(0, "B1", [(3, 3), (0, 0), (1, 1)])])

    def test_gaps_without_place_do_not_follow(self):
        self.check("B1 _1 A2 B1 _1%123 A1/", [(0, "B1", [(2, 2), (0, 0)])])
        self.check("B1 _1 B1/", [(0, "B1", [(1, 1), (0, 0)])])
        self.check("B1" + " A1 _1" * 16 + " A2 B1" + " A1" * 16 + "/", [(0, "B1", [(0, 0), (18, 18)])])

    def test_equal_followers(self):
        self.check("A1 A2 A1 B1/", [(0, ".. B1", [(0, 3), (1, 3), (2, 3), (3, 3)])])
        same = " A2" * 16
        self.check("B1" + same + " B1" + same + " B1" + same + "/", [(0, "B1", [(0, 0), (17, 17), (34, 34)])])
        self.check(("B1" + same + "/") * 4, [(1, "B1", [(0, 0), (17, 17), (34, 34), (51, 51)])])

    def test_what_follows_is_behind_the_least_end(self):
        self.check("A1 A2 B1 A1 B1 A2 A1/", [(0, "A1 .. B1", [(0, 2), (3, 4)]), (0, "A1 ..", [(6, 6), (0, 0), (3, 3)])])

    def test_many_texts_by_the_words(self):
        total = 0
        for text, text_row, pattern, atoms in small_cases(6, 400):
            for how in (0, 1):
                finds = sorted(finds_of(how, 3, text_row, atoms), key=compare(text_row))
                total += finds != sorted(finds)
                self.check(text, [(how, pattern, finds)])
        self.assertGreater(total, 50)

    def test_the_finds_are_all_finds_each_once(self):
        for text, text_row, pattern, atoms in small_cases(7, 400):
            for how in (0, 1):
                given = (as_bytes(SMALL_LIST), as_bytes(text), as_bytes(pattern))
                answer = order(how, *given)
                self.assertEqual(sorted(pairs_of(answer)), pairs_of(all_of(how, *given)))
                self.assertEqual(answer[0], all_of(how, *given)[0])

    def test_every_place_of_the_largest_text(self):
        places = 2048 // 3
        given = (as_bytes(list_of("A1", "A2", "A100")), as_bytes(long_text(2048)))
        # From the seventeenth place before the last on the last one is seen, and it's greater than A1.
        near = [(i, i) for i in range(places - 17, places - 1)]
        expected = [(places - 1, places - 1)] + [(i, i) for i in range(places - 17)] + near
        self.assertEqual(pairs_of(order(0, *given, as_bytes("."))), expected)
        self.assertEqual(pairs_of(order(0, *given, as_bytes(".. A100"))), [(i, places - 1) for i in range(places)])

    def test_what_is_handed_in_stays(self):
        for how, text, pattern in ((0, RUN_TEXT, "A1 .."), (1, RUN_TEXT_WITH_DAMAGE, "=A3 .. !A2"), (2, RUN_TEXT, "A1"),
                                   (0, RUN_TEXT, "a"), (0, "A1", "A1"), (0, "B7/", "A1"), (0, "A1/" * 700, "A1")):
            given = (Fixed(as_bytes(RUN_LIST)), Fixed(as_bytes(text)), Fixed(as_bytes(pattern)))
            first = order(how, *given)
            self.assertEqual(given, (as_bytes(RUN_LIST), as_bytes(text), as_bytes(pattern)))
            self.assertEqual(order(how, *given), first)

    def test_answers_are_lists_of_whole_numbers(self):
        for how, text, pattern in ((0, RUN_TEXT, ".."), (1, RUN_TEXT, "Z9"), (2, RUN_TEXT, "A1"), (0, RUN_TEXT, "")):
            answer = order(how, as_bytes(RUN_LIST), as_bytes(text), as_bytes(pattern))
            self.assertIs(type(answer), list)
            self.assertEqual([type(number) for number in answer], [int] * len(answer))


if __name__ == "__main__":
    unittest.main()
