import itertools
import re
import unittest

from helper import as_bytes, long_pattern
from signsearch.finds import judge

NAME = "[A-Z][a-z]?[1-9][0-9]{0,2}[a-z]?"
ATOM = (r"(?:\.\.|!?(?:=?" + NAME + r"|[A-Z][a-z]?\*|\.|\{" + NAME + "(?:," + NAME + r"){0,15}\}))")
RIGHT = re.compile(ATOM + "(?: " + ATOM + "){0,63}")
# Each beginning of a right pattern becomes a right one with one of these behind it.
ENDINGS = ("", "1", "A1", "}", "1}", "A1}")


def begins_right(text):
    return any(RIGHT.fullmatch(text + ending) for ending in ENDINGS)


def expected(text):
    if RIGHT.fullmatch(text):
        return [1 + text.count(" ")]
    return [-6, max(n for n in range(len(text) + 1) if begins_right(text[:n]))]


class JudgeTest(unittest.TestCase):
    def judged(self, text):
        return judge(as_bytes(text))

    def check(self, rows):
        for text, answer in rows:
            with self.subTest(text=text):
                self.assertEqual(self.judged(text), answer)

    def test_faults_of_the_run(self):
        self.check([
            ("", [-6, 0]), ("A1 ", [-6, 3]), ("!..", [-6, 2]), ("{A1", [-6, 3]), ("{}", [-6, 1]),
            ("A0", [-6, 1]), ("a", [-6, 0]), ("A2 ..  A3", [-6, 6]),
        ])

    def test_every_kind_of_atom(self):
        for atom in ("A1", "Aa15", "D4b", "=A1", "=Aa15b", "A*", "Aa*", ".", "{A1}", "{A1,Aa15,D4b}", "{A1,A1}"):
            self.check([(atom, [1]), ("!" + atom, [1]), (atom + " .. !" + atom, [3])])
        self.check([("..", [1]), (".. ..", [2]), (". .. .", [3])])

    def test_the_patterns_of_the_run(self):
        self.check([("A1 ..", [2]), ("A1 .. A3", [3]), ("!A1", [1]), ("{A2,A3} A*", [2]), ("A1 A1", [2])])

    def test_names_at_their_edges(self):
        self.check([
            ("A1", [1]), ("A9", [1]), ("A10", [1]), ("A999", [1]), ("Zz999z", [1]),
            ("A1000", [-6, 4]), ("A9999", [-6, 4]), ("A00", [-6, 1]), ("A01", [-6, 1]), ("Aa01", [-6, 2]),
            ("A", [-6, 1]), ("Aa", [-6, 2]), ("Aab", [-6, 2]), ("AA1", [-6, 1]),
            ("A1ab", [-6, 3]), ("A1a1", [-6, 3]), ("A1A", [-6, 2]), ("1", [-6, 0]),
        ])

    def test_bytes_beside_the_letters_and_digits(self):
        self.check([
            ("@1", [-6, 0]), ("[1", [-6, 0]), ("A`1", [-6, 1]), ("A{1", [-6, 1]), ("A:", [-6, 1]),
            ("A1:", [-6, 2]), ("A1`", [-6, 2]), ("A1{", [-6, 2]), ("A1/", [-6, 2]), ("A1\x00", [-6, 2]),
            ("\x00", [-6, 0]), ("\xff", [-6, 0]), ("A1\t", [-6, 2]),
        ])

    def test_faults_of_atoms(self):
        self.check([
            ("!", [-6, 1]), ("!!A1", [-6, 1]), ("=", [-6, 1]), ("==A1", [-6, 1]), ("=!A1", [-6, 1]),
            ("=A*", [-6, 2]), ("=.", [-6, 1]), ("={A1}", [-6, 1]), ("*", [-6, 0]), ("A1*", [-6, 2]),
            ("A**", [-6, 2]), ("...", [-6, 2]), (".A1", [-6, 1]), ("..A1", [-6, 2]), ("A1.", [-6, 2]),
            ("A1=", [-6, 2]), ("A1!", [-6, 2]), ("! A1", [-6, 1]),
        ])

    def test_faults_of_braces(self):
        self.check([
            ("{", [-6, 1]), ("{,A1}", [-6, 1]), ("{A1,", [-6, 4]), ("{A1,}", [-6, 4]), ("{A1,,A2}", [-6, 4]),
            ("{A1 ,A2}", [-6, 3]), ("{A1, A2}", [-6, 4]), ("{A*}", [-6, 2]), ("{!A1}", [-6, 1]), ("{.}", [-6, 1]),
            ("{A1}}", [-6, 4]), ("{A1}A2", [-6, 4]), ("{{A1}}", [-6, 1]), ("A1,A2", [-6, 2]), ("}", [-6, 0]),
        ])

    def test_blanks(self):
        self.check([
            (" ", [-6, 0]), (" A1", [-6, 0]), ("A1 A2", [2]), ("A1  A2", [-6, 3]), ("A1 A2 ", [-6, 6]),
        ])

    def test_sixteen_names_and_seventeen(self):
        sixteen = "{" + ",".join(["A1"] * 16)
        self.check([
            (sixteen + "}", [1]), (sixteen, [-6, 48]), (sixteen + ",", [-6, 48]), (sixteen + ",A1}", [-6, 48]),
        ])

    def test_sixty_four_atoms_and_sixty_five(self):
        self.check([
            (" ".join(["."] * 64), [64]), (" ".join(["."] * 65), [-6, 127]), (" ".join(["."] * 64) + " ", [-6, 127]),
            (" ".join([".."] * 64), [64]), (" ".join([".."] * 65), [-6, 191]),
            (" ".join(["."] * 63) + " A", [-6, 127]),
        ])

    def test_size(self):
        self.check([
            (long_pattern(4095), [64]), (long_pattern(4096), [64]), (long_pattern(4097), [-2]),
            (long_pattern(4097)[:-1], [-6, 4096]), (long_pattern(4096)[:-1] + "*", [-6, 4095]),
            ("a" * 4096, [-6, 0]), ("a" * 4097, [-2]), ("a" * 4200, [-2]),
        ])

    def test_all_short_patterns(self):
        for size in range(5):
            for letters in itertools.product("Aa01,{}!=*. ", repeat=size):
                text = "".join(letters)
                self.assertEqual(self.judged(text), expected(text), text)

    def test_each_byte_changed(self):
        pattern = "!{A1,Bb22c} .. =C3 D* . !Ee*"
        for place in range(len(pattern)):
            for byte in range(256):
                changed = pattern[:place].encode() + bytes([byte]) + pattern[place + 1:].encode()
                text = changed.decode("latin-1")
                self.assertEqual(judge(list(changed)), expected(text), text)
            self.assertEqual(self.judged(pattern[:place]), expected(pattern[:place]))

    def test_what_is_handed_in_stays(self):
        for text in ("A1 .. !{A1,B2}", "A1  A2", "a" * 4097):
            pattern = as_bytes(text)
            first = judge(pattern)
            self.assertEqual(pattern, as_bytes(text))
            self.assertEqual(judge(pattern), first)

    def test_answers_are_lists_of_whole_numbers(self):
        for text in ("A1", "a", "a" * 4097):
            answer = self.judged(text)
            self.assertIs(type(answer), list)
            self.assertEqual([type(number) for number in answer], [int] * len(answer))


if __name__ == "__main__":
    unittest.main()
