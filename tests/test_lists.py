import unittest

from helper import RUN_LIST, as_bytes, list_of, sign_text
from signsearch.finds import set_of


def names_in_order(count):
    return [capital + str(number) for capital in "ABC" for number in range(1, 201)][:count]


class ListTest(unittest.TestCase):
    def right(self, text, count):
        answer = set_of(0, as_bytes(text), as_bytes("."))
        self.assertEqual(answer, [count] + list(range(count)), text[:200])

    def wrong(self, text):
        self.assertEqual(set_of(0, as_bytes(text), as_bytes(".")), [-3], text[:200])

    def test_the_list_of_the_run(self):
        self.right(RUN_LIST, 3)

    def test_no_sign_at_all(self):
        for text in ("", "/", "#/", "sign"):
            self.wrong(text)

    def test_each_beginning_of_a_list(self):
        text = sign_text("A1", "##./#.#", ("ab", "c")) + sign_text("Bb22c", "#")
        for size in range(len(text)):
            # A list may end behind a sign's line, if its shape is right by then.
            if text[:size] in ("sign A1 ab c/##./#.#/",):
                self.right(text[:size], 1)
            else:
                self.wrong(text[:size])
        self.right(text, 2)

    def test_each_byte_changed_to_one_that_no_list_has(self):
        right = as_bytes(RUN_LIST.replace("A1", "A1 ab"))
        self.assertEqual(set_of(0, right, as_bytes("A1")), [1, 0])
        for place in range(len(right)):
            for byte in (0, 9, 13, 31, 33, 34, 36, 45, 47, 58, 64, 91, 96, 123, 127, 128, 255):
                changed = right[:place] + [byte] + right[place + 1:]
                self.assertEqual(set_of(0, changed, as_bytes("A1")), [-3], changed)

    def test_the_byte_10_behind_the_last_line(self):
        self.wrong("sign A1/#")
        self.wrong("sign A1/#//")
        self.wrong("sign A1/#/ ")
        self.wrong(RUN_LIST[:-1])

    def test_the_sign_line(self):
        self.right("sign A1/#/", 1)
        for line in ("sign", "sign ", "signA1", "sign  A1", " sign A1", "Sign A1", "sing A1", "sign A1 ", "A1", "sig A1",
                     "signs A1", "sign\tA1", "sign A1\r", "sign A1."):
            self.wrong(line + "/#/")
        self.wrong("/sign A1/#/")
        self.wrong("sign A1//#/")
        self.wrong("sign A1/#//sign A2/#/")

    def test_names(self):
        for name in ("A1", "Z9", "A10", "A999", "Aa15", "D4b", "Zz999z"):
            self.right(list_of(name), 1)
        for name in ("A", "a1", "A0", "A01", "A1000", "AA1", "Aaa1", "A1ab", "A1A", "1", "Aa", "A1*", "A-1", "[1", "@1"):
            self.wrong(list_of(name))

    def test_names_rise(self):
        names = ["A1", "A1a", "A1z", "A2", "A9", "A10", "A10a", "A11", "A100", "A999z", "Aa1", "Aa1a", "Aa2", "Ab1",
                 "Az999z", "B1", "Ba1", "C1", "Zz999z"]
        self.right(list_of(*names), len(names))
        for before, behind in zip(names, names[1:]):
            self.right(list_of(before, behind), 2)
            self.wrong(list_of(behind, before))
        for name in names:
            self.wrong(list_of(name, name))
        self.wrong(list_of("A1", "A3", "A2"))
        self.wrong(list_of("A1", "A2", "A1"))

    def test_sounds(self):
        eight = ("a", "b", "c", "d", "e", "f", "g", "h")
        for sounds in ((), ("a",), ("z",), ("abcdefgh",), ("a", "aa", "ab"), ("b", "a"), eight):
            self.right(sign_text("A1", "#", sounds), 1)
        for sounds in (("abcdefghi",), ("",), ("a", ""), ("", "a"), ("A",), ("a1",), ("a-b",), ("`",), ("{",), ("a\t",)):
            self.wrong(sign_text("A1", "#", sounds))
        self.wrong(sign_text("A1", "#", eight + ("i",)))

    def test_a_sound_twice(self):
        self.wrong(sign_text("A1", "#", ("a", "a")))
        self.wrong(sign_text("A1", "#", ("a", "bc", "a")))
        self.wrong(sign_text("A1", "#") + sign_text("A2", "#", ("mn", "mn")))
        self.right(sign_text("A1", "#", ("mn",)) + sign_text("A2", "#", ("mn",)), 2)

    def test_thirty_two_rows_and_columns(self):
        self.right(sign_text("A1", "#" * 32), 1)
        self.right(sign_text("A1", "/".join(["#"] * 32)), 1)
        self.right(sign_text("A1", "/".join(["#" * 32] * 32)), 1)
        self.right(sign_text("A1", "/".join(["#" * 32] * 32)) + sign_text("A2"), 2)
        self.wrong(sign_text("A1", "#" * 33))
        self.wrong(sign_text("A1", "/".join(["#"] * 33)))
        self.wrong(sign_text("A1", "/".join(["#" * 32] * 33)))
        self.wrong(sign_text("A1", "/".join(["#" * 33] * 32)))
        self.wrong(sign_text("A1", "/".join(["#"] * 33)) + sign_text("A2"))

    def test_rows_of_different_lengths(self):
        for rows in ("#/##", "##/#", "##/##/###", "##/#/##", "#.#/##/###"):
            self.wrong(sign_text("A1", rows))
            self.wrong(sign_text("A1", rows) + sign_text("A2"))
        self.right(sign_text("A1", "##/##") + sign_text("A2", "#"), 2)

    def test_a_side_without_ink(self):
        for rows in ("...", ".", "#./#.", ".#/.#", "../##", "##/..", "./#", "#/.", ".#", "#.", "#.././#..", ".../.#./..."):
            self.wrong(sign_text("A1", rows))
        for rows in ("#./.#", ".#/#.", "#.#", "#/./#", ".#./#.#/.#.", "#../.../..#"):
            self.right(sign_text("A1", rows), 1)

    def test_other_cells(self):
        for rows in ("#x#", "# #", "$", "#-#", "##/#,#", "x", " #", "# ", "#\t", "##\r"):
            self.wrong(sign_text("A1", rows))

    def test_a_sign_without_rows(self):
        self.wrong("sign A1/")
        self.wrong("sign A1/sign A2/#/")
        self.wrong("sign A1/#/sign A2/")

    def test_512_signs_and_513(self):
        self.right(list_of(*names_in_order(512)), 512)
        self.wrong(list_of(*names_in_order(513)))

    def test_the_largest_list(self):
        sounds = [letter * 8 for letter in "abcdefgh"]
        rows = "/".join(["#" * 32] * 32)
        text = "".join(sign_text(name, rows, sounds) for name in names_in_order(512))
        self.right(text, 512)
        self.wrong(text[:-1])


if __name__ == "__main__":
    unittest.main()
