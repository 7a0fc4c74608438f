"""place and piece: which piece stands at a place, and at which place a piece stands."""

import random
import re
import unittest

from helper import Fixed, RUN_LIST, RUN_TEXT, SMALL_LIST, as_bytes, list_of, long_text, small_text
from signsearch.finds import piece, place

SIGNS = list_of("A1", "A2", "A3")
PIECE = re.compile("(?:[A-Z][a-z]?[0-9]+[a-z]?|_[0-9]+)[~%?0-9]*")


def pieces_at_places(text):
    """By the text's letters alone: for each place the number of its piece."""
    found = PIECE.findall(text)
    return [number for number, letters in enumerate(found) if letters[0] != "_" or letters.endswith("%1234")]


class PlaceTest(unittest.TestCase):
    def check(self, text, pieces, signs=SIGNS):
        """pieces: for each place its piece; so it's asked at which place each piece stands, too."""
        given = (as_bytes(signs), as_bytes(text))
        self.assertEqual(pieces_at_places(text), pieces)
        answers = [place(i, *given) for i in range(len(pieces) + 2)]
        self.assertEqual(answers, [[number] for number in pieces] + [[-4], [-4]], text)
        self.assertEqual(place(4294967295, *given), [-4])
        count = len(PIECE.findall(text))
        answers = [piece(k, *given) for k in range(count + 2)]
        expected = [[pieces.index(k)] if k in pieces else [-5] for k in range(count)]
        self.assertEqual(answers, expected + [[-4], [-4]], text)
        self.assertEqual(piece(4294967295, *given), [-4])
        for i in range(len(pieces)):
            self.assertEqual(piece(place(i, *given)[0], *given), [i])

    def test_the_run(self):
        self.check(RUN_TEXT, [0, 1, 2, 3], RUN_LIST)

    def test_gaps_that_are_no_places(self):
        self.check("_1 A1/", [1])
        self.check("A1 _1 A2/", [0, 2])
        self.check("A1*_1:_2*A2 _3/", [0, 3])
        self.check("_1%1 _1%12 A1 _1%123 _1%234 A2 _1%124 _1%134/", [2, 5])
        self.check("_1/", [])
        self.check("_1 _2:_3/_4/", [])

    def test_gaps_damaged_all_over(self):
        self.check("_1%1234/", [0])
        self.check("_1 _2%1234 _3 A1 _32%1234/", [1, 3, 4])
        self.check("A1[n_1%1234;s_1]*_2%1234/", [0, 1, 3])

    def test_a_gap_that_may_be_no_sign_is_a_place(self):
        self.check("A1 _1%1234 A2/", [0, 1, 2], SMALL_LIST)

    def test_damaged_and_uncertain_signs(self):
        self.check("A1%1 _1 A1? A1~ _1 A1~%1234?/", [0, 2, 3, 5])

    def test_nests(self):
        self.check("A1[nA2]/", [0, 1])
        self.check("A1[n_1;s_2;cA2] A3/", [0, 3, 4])
        self.check("A1[n_1*A2[s_1;nA3]:_2]&_1 A1/", [0, 2, 4, 7])

    def test_rings(self):
        self.check("<A1 A2>/", [0, 1])
        self.check("<_1 A1 _1> A2 <_2 A3>/", [1, 3, 5])

    def test_piles_columns_and_rows(self):
        self.check("A1&_1&A2/", [0, 2])
        self.check("A1:_1:A2*A3*_1*A1&_1&A2/", [0, 2, 3, 5, 7])
        self.check("(_1:A1)*(A2:_1)&(A3*_1*A1)/", [1, 2, 4, 6])

    def test_lost_elements_are_no_pieces(self):
        self.check("... A1/", [0])
        self.check("A1 ... _1 ... ... A2/.../A3/", [0, 2, 3])
        self.check(".../", [])

    def test_lines(self):
        self.check("A1/_1/A2/_1 A3/", [0, 2, 4])

    def test_many_texts(self):
        source = random.Random(8)
        for step in range(200):
            text = small_text(source, source.randint(1, 8))[0]
            self.check(text, pieces_at_places(text), SMALL_LIST)

    def test_the_largest_text(self):
        signs = list_of("A1", "A10", "A100")
        given = (as_bytes(signs), as_bytes(long_text(65536)))
        places = 65536 // 3
        for i in (0, 1, 63, 64, 5000, places - 1):
            self.assertEqual(place(i, *given), [i])
            self.assertEqual(piece(i, *given), [i])
        self.assertEqual(place(places, *given), [-4])
        self.assertEqual(piece(places, *given), [-4])
        for call in (place, piece):
            self.assertEqual(call(0, as_bytes(signs), as_bytes(long_text(65537))), [-2])

    def test_a_large_text_of_large_blocks(self):
        block = "*".join(["_1", "A1"] * 32)
        text = ("<" + " ".join([block] * 16) + ">/") * 20
        self.assertLess(len(text), 65536)
        given = (as_bytes(SIGNS), as_bytes(text))
        self.assertEqual(place(10239, *given), [20479])
        self.assertEqual(place(10240, *given), [-4])
        self.assertEqual([piece(k, *given) for k in (20477, 20478, 20479, 20480)], [[10238], [-5], [10239], [-4]])
        deep = "A1[n" * 63 + "A1" + "]" * 63
        for call in (place, piece):
            self.assertEqual(call(64 * 150 - 1, as_bytes(SIGNS), as_bytes((deep + "/") * 150)), [64 * 150 - 1])

    def test_nested_as_deep_as_the_text_is_long(self):
        for text in ("(" * 65535 + "/", "A1[n" * 16384, "(A1:" * 16384, "A1[n" * 13000 + "A1" + "]" * 13000 + "/", "<" * 65536):
            for call in (place, piece):
                self.assertEqual(call(0, as_bytes(SIGNS), as_bytes(text)), [-6])

    def test_what_is_handed_in_stays(self):
        for i, text in ((0, RUN_TEXT), (9, RUN_TEXT), (1, "A1~%1?[nA2;s_1%1234]:(A3:A2)*A1 ... <A1>/"), (0, "A1"), (0, "B7/"),
                        (0, "_1/"), (0, "A" * 65537)):
            for call in (place, piece):
                given = (Fixed(as_bytes(RUN_LIST)), Fixed(as_bytes(text)))
                first = call(i, *given)
                self.assertEqual(given, (as_bytes(RUN_LIST), as_bytes(text)))
                self.assertEqual(call(i, *given), first)

    def test_answers_are_lists_of_whole_numbers(self):
        for i, text in ((0, RUN_TEXT), (9, RUN_TEXT), (0, "A1"), (0, "B7/"), (0, "_1/")):
            for call in (place, piece):
                answer = call(i, as_bytes(RUN_LIST), as_bytes(text))
                self.assertIs(type(answer), list)
                self.assertEqual([type(number) for number in answer], [int])


if __name__ == "__main__":
    unittest.main()
