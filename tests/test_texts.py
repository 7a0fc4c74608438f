import itertools
import random
import unittest

from helper import NEST_PLACES, as_bytes, is_text, list_of
from signsearch.finds import next_of

SIGNS = list_of("A1", "A2", "Aa15", "B1", "D4b")
# Tokens, not bytes, so that short rows of them go far into the grammar.
TOKENS = ("A1", "_2", "(", ")", ":", "*", "&", "[n", ";s", "]", "<", ">", " ", "...", "/", "~", "%1", "?")
# Nested parentheses, each one again around the whole before it; so a row of so many pieces is as deep as can be.
WRAPS = (("(", ")*A1"), ("(", ")&A1:A1"))


def is_right(text):
    answer = next_of(0, 0, as_bytes(SIGNS), as_bytes(text), as_bytes("."))
    return answer != [-6]


def deep_parens(pieces):
    text = "A1:A1"
    count = 2
    for start, end in itertools.cycle(WRAPS):
        more = end.count("A1")
        if count + more > pieces:
            return text + "*A1" * (pieces - count)
        text = start + text + end
        count += more


def deep_nests(pieces):
    return "A1[n" * (pieces - 1) + "A1" + "]" * (pieces - 1)


class RandomText:
    """Right texts, made along the grammar; the same ones each time."""

    def __init__(self, seed):
        self.random = random.Random(seed)

    def some(self, make, mark, least, depth):
        return mark.join(make(depth - 1) for step in range(self.random.choice((least, least, least + 1))))

    def single(self, depth):
        if self.random.random() < 0.2:
            return "_" + str(self.random.randint(1, 32)) + self.quarters()
        text = self.random.choice(("A1", "A2", "Aa15", "D4b"))
        text += self.random.choice(("", "", "~")) + self.quarters() + self.random.choice(("", "", "?"))
        if depth > 0 and self.random.random() < 0.3:
            text += "[" + self.some(self.nest, ";", 1, depth) + "]"
        return text

    def quarters(self):
        if self.random.random() < 0.8:
            return ""
        return "%" + "".join(sorted(self.random.sample("1234", self.random.randint(1, 4))))

    def nest(self, depth):
        return self.random.choice(NEST_PLACES) + self.part(depth)

    def one_of(self, depth, *makes):
        return self.random.choice(makes)(depth) if depth > 0 else self.single(depth)

    def column(self, depth):
        return self.some(self.cell, ":", 2, depth)

    def row(self, depth):
        return self.some(self.seat, "*", 2, depth)

    def pile(self, depth):
        return self.some(self.sheet, "&", 2, depth)

    def column_in_parens(self, depth):
        return "(" + self.column(depth) + ")"

    def row_in_parens(self, depth):
        return "(" + self.row(depth) + ")"

    def cell(self, depth):
        return self.one_of(depth, self.row, self.pile, self.single)

    def seat(self, depth):
        return self.one_of(depth, self.column_in_parens, self.pile, self.single)

    def sheet(self, depth):
        return self.one_of(depth, self.column_in_parens, self.row_in_parens, self.single)

    def part(self, depth):
        return self.one_of(depth, self.column, self.row, self.pile, self.single)

    def element(self, depth):
        kind = self.random.random()
        if kind < 0.1:
            return "..."
        if kind < 0.3:
            return "<" + self.some(self.part, " ", 1, depth) + ">"
        return self.part(depth)

    def line(self, depth):
        return self.some(self.element, " ", 1, depth) + "/"

    def text(self):
        return self.some(self.line, "", 1, 5)


class TextTest(unittest.TestCase):
    def right(self, *texts):
        for text in texts:
            self.assertTrue(is_right(text), text[:200])

    def wrong(self, *texts):
        for text in texts:
            self.assertFalse(is_right(text), text[:200])

    def right_blocks(self, *blocks):
        self.right(*[block + "/" for block in blocks])
        self.right(*["<" + block + " A1>/" for block in blocks])
        self.right(*["A1[n" + block + ";s" + block + "]/" for block in blocks])

    def wrong_blocks(self, *blocks):
        self.wrong(*[block + "/" for block in blocks])
        self.wrong(*["<" + block + " A1>/" for block in blocks])
        self.wrong(*["A1[n" + block + ";sA1]/" for block in blocks])
        self.wrong(*["A1[nA1;s" + block + "]/" for block in blocks])

    def test_lines(self):
        self.right("A1/", "A1/A2/", "A1 A2/A1/", ".../", "... .../", "A1 ... A2/.../", "_1/")
        self.wrong("", "/", "A1", "A1/A2", "A1//", "/A1/", "A1//A2/", " A1/", "A1 /", "A1  A2/", "A1\t/", "A1\r/", "A1/ ")

    def test_lost_signs(self):
        self.right(".../", "... A1/", "A1 .../")
        self.wrong("./", "../", "..../", "...A1/", "A1.../", "......./", "<...>/", "<A1 ...>/", "A1*.../", ".. ./",
                   "...?/", "A1[n...]/", "(...)/")

    def test_rings(self):
        self.right("<A1>/", "<A1 A2>/", "<A1*A2 A1:A2>/", "<A1> <A2>/", "A1 <A2> .../", "<_1>/", "<A1[nA2]>/")
        self.wrong("<>/", "<A1/", "A1>/", "< A1>/", "<A1 >/", "<A1  A2>/", "<<A1>>/", "<A1 <A2>>/", "<A1>A2/", "A1<A2>/",
                   "<A1>*A2/", "<A1>?/", "<A1/A2>/", "<A1>>/", "A1[n<A2>]/")

    def test_names(self):
        self.right_blocks("A1", "Aa15", "D4b", "Zz999z", "A999")
        self.wrong_blocks("A", "a1", "A0", "A01", "A1000", "AA1", "Aaa1", "A1ab", "A1B2", "1", "Aa", "=A1", "!A1", ".", "A*",
                          "{A1}", "A1,A2")

    def test_marks_of_a_sign(self):
        self.right_blocks("A1~", "A1%1", "A1?", "A1~%1", "A1~?", "A1%1?", "A1~%1234?", "A1~%1?[nA1]", "A1?[nA1]",
                          "A1~[nA1~]", "A1%1[nA1%1]", "D4b~")
        self.wrong_blocks("A1?~", "A1?%1", "A1%1~", "A1~~", "A1??", "A1%1%2", "A1[nA1]?", "A1[nA1]~", "A1[nA1]%1", "~A1",
                          "?A1", "A~1", "A1~a", "D4~b", "A1%1a")

    def test_quarters(self):
        quarters = ["".join(some) for size in (1, 2, 3, 4) for some in itertools.combinations("1234", size)]
        self.right_blocks(*["A1%" + some for some in quarters])
        self.right_blocks(*["_3%" + some for some in quarters])
        for size in (2, 3, 4):
            for some in itertools.product("1234", repeat=size):
                if "".join(some) not in quarters:
                    self.wrong_blocks("A1%" + "".join(some), "_3%" + "".join(some))
        self.wrong_blocks("A1%", "A1%0", "A1%5", "A1%15", "A1%01", "A1%12341", "A1%?", "A1%%1", "A1%[nA1]", "_3%", "_3%5")

    def test_gaps(self):
        self.right_blocks(*["_" + str(size) for size in range(1, 33)])
        self.right_blocks("_1%1234", "_32%1", "_1*_2", "_1:_2", "_1&_2")
        self.wrong_blocks("_", "_0", "_33", "_34", "_40", "_99", "_100", "_320", "_1000", "_01", "_00", "_1a", "_1~", "_1?",
                          "_1%1?", "_1[nA1]", "__1", "_A1", "_ 1", "_1_2", "_-1")

    def test_columns_rows_and_piles(self):
        self.right_blocks("A1:A2", "A1*A2", "A1&A2", "A1:A2:A1:A2", "A1*A2*A1*A2", "A1&A2&A1&A2", "A1*A2:A1*A2", "A1:A2*A1",
                          "A1*A2:A1", "A1&A2:A1&A2", "A1&A2*A1&A2", "A1&A2*A1:A2", "A1:A2*A1&A2:A1")
        for mark in ":*&":
            self.wrong_blocks(mark, "A1" + mark, mark + "A1", "A1" + mark + mark + "A2", "A1" + mark + "A2" + mark)
        self.wrong_blocks("A1:*A2", "A1*:A2", "A1&*A2", "A1:&A2", "A1 *A2", "A1+A2", "A1;A2", "A1A2")

    def test_where_a_column_stands_in_parentheses(self):
        self.right_blocks("(A1:A2)*A1", "A1*(A2:A1)", "A1*(A2:A1)*A2", "(A1:A2)*(A2:A1)", "(A1:A2)&A1", "A1&(A2:A1)",
                          "(A1:A2)&(A2:A1)", "(A1:A2)&A1*A2", "A1*(A1:A2)&A1", "A1:(A1:A2)*A2", "(A1:A2)*A1:A2",
                          "(A1:A2)&A1:A2", "A1:(A1:A2)&A2", "(A1*A2:A1&A2)*A1", "(A1:A2:A1)&A1")
        self.wrong_blocks("(A1:A2)", "(A1:A2):A1", "A1:(A1:A2)", "(A1:A2):(A1:A2)", "A1:(A1:A2):A2", "A1*A2:(A1:A2)",
                          "(A1:A2):A1*A2", "A1&A2:(A1:A2)", "(A1:A2):A1&A2", "A1*(A2:(A1:A2))", "((A1:A2):A1)*A2")

    def test_where_a_row_stands_in_parentheses(self):
        self.right_blocks("(A1*A2)&A1", "A1&(A1*A2)", "(A1*A2)&(A1*A2)", "(A1*A2)&(A1:A2)", "A1*(A1*A2)&A2", "(A1*A2)&A1*A2",
                          "(A1*A2)&A1:A2", "A1:(A1*A2)&A1", "A1&(A1*A2)&A1")
        self.wrong_blocks("(A1*A2)", "(A1*A2)*A1", "A1*(A1*A2)", "A1*(A1*A2)*A2", "(A1*A2):A1", "A1:(A1*A2)", "A1:(A1*A2):A2",
                          "(A1*A2)*A1&A2", "A1&A2*(A1*A2)", "(A1*A2)*(A1:A2)", "(A1:A2)*(A1*A2)", "(A1*A2):A1&A2",
                          "A1&A2:(A1*A2)")

    def test_what_never_stands_in_parentheses(self):
        for within in ("A1", "A1&A2", "_1", "A1[nA2]", "A1~%1?", "(A1:A2)", "(A1*A2)", "(A1:A2)&A1", ""):
            inner = "(" + within + ")"
            self.wrong_blocks(inner, inner + "*A1", inner + "&A1", inner + ":A1", "A1*" + inner, "A1&" + inner, "A1:" + inner)

    def test_parentheses_in_parentheses(self):
        self.right_blocks("((A1:A2)*A1)&A1", "((A1:A2)*A1:A2)*A1", "((A1*A2)&A1:A2)*A1", "A1*(A2:A1*(A2:A1))",
                          "((A1*A2)&A1*A2)&A1", "A1&(A1*(A1:A2)&(A1*A2))", "((A1:A2)&A1:A2)*A1")
        self.wrong_blocks("((A1:A2)*A1)*A1", "((A1:A2)*A1)", "(A1*(A1:A2))*A1", "((A1*A2)*A1)&A1", "((A1*A2):A1)&A1",
                          "((A1:A2):A1)&A1")

    def test_unpaired_parentheses(self):
        self.wrong_blocks("(A1:A2", "A1:A2)", "(A1:A2*A1", "A1:A2)*A1", "((A1:A2)*A1", "(A1:A2))*A1", "()", "()*A1", "(", ")",
                          "(A1:A2*)A1", "A1(:A2)*A1", "(A1:A2)A1", "A1(A1:A2)", "(A1:A2]*A1", "(A1:A2)(A1:A2)*A1",
                          "(A1:A2)~*A1", "(A1:A2)?*A1", "(A1:A2)[nA1]*A1", "(A1 A2)*A1", "(A1:A2 )*A1")

    def test_nests(self):
        self.right_blocks(*["A1[" + place + "A2]" for place in NEST_PLACES])
        self.right_blocks("A1[nA2;sA2]", "A1[nA2;nA2;nA2]", "A1[nA2:A1]", "A1[nA2*A1]", "A1[nA2&A1]", "A1[n_1]", "A1[n_1%1234]",
                          "A1[n(A1:A2)*A1]", "A1[ne(A1*A2)&A1;c_2]*A2", "A1[nA2]:A1[sA2]", "(A1[nA2]:A1)*A2", "A1[nA2]&A1",
                          "A1[nA2:A1;sA2*A1;cA1&A2]")
        self.wrong_blocks("A1[]", "A1[n]", "A1[A2]", "A1[nA2", "A1nA2]", "A1[nA2;]", "A1[;nA2]", "A1[nA2;;sA2]", "A1[nA2;A2]",
                          "A1[nA2]]", "A1[[nA2]]", "A1[nA2][sA2]", "A1[nA2,sA2]", "A1[nA2 sA2]", "A1[ nA2]", "A1[nA2)", "A1[nA2]A2",
                          "A1[n(A1:A2)]", "A1[n(A1*A2)]", "A1[n(A1:A2);sA1]", "A1[nA2:]", "(A1[nA2:A1)*A1", "A1[n(A1:A2]*A1)")
        for place in ("nn", "en", "wn", "ws", "es", "cn", "nc", "ew", "x", "N", "sws", "nwe", "new", "1", "o", "sc"):
            self.wrong_blocks("A1[" + place + "A2]")

    def test_nests_in_nests(self):
        self.right_blocks("A1[nA2[sA1]]", "A1[nA2[sA1];cA1[eA2[wA1]]]", "A1[nA2:A1[sA2*A1[cA1]]]*A2", "(A1[nA2[sA1:A2]]:A1)&A2")
        self.wrong_blocks("A1[nA2[sA1]", "A1[nA2[sA1]]]", "A1[nA2[]]", "A1[nA2[sA1];]", "A1[[nA2]sA1]")

    def test_sixty_four_pieces_of_a_block_and_sixty_five(self):
        for mark in ":*&":
            for piece in ("A1", "_1", "_1%1234", "A1~%1?"):
                self.right(mark.join([piece] * 64) + "/", "<" + mark.join([piece] * 64) + ">/")
                self.wrong(mark.join([piece] * 65) + "/", "<" + mark.join([piece] * 65) + ">/")
        self.right("*".join(["A1", "_1"] * 32) + "/", deep_nests(64) + "/", "A1[" + ";".join(["nA1"] * 63) + "]/")
        self.wrong("*".join(["A1", "_1"] * 32) + "*_1/", deep_nests(65) + "/", "A1[" + ";".join(["nA1"] * 64) + "]/")
        self.right("A1[" + ";".join(["nA1"] * 62) + "]*A1/")
        self.wrong("A1[" + ";".join(["nA1"] * 62) + "]*A1*A1/", "A1*A1[" + ";".join(["nA1"] * 63) + "]/")

    def test_each_block_has_its_own_pieces(self):
        block = "*".join(["A1"] * 64)
        self.right(block + " " + block + "/" + block + "/", "<" + block + " " + block + "> " + block + "/")
        self.wrong(block + " " + block + "*A1/", "<" + block + " " + block + "*A1>/", block + "/" + block + ":A1/")

    def test_parentheses_as_deep_as_sixty_four_pieces_allow(self):
        for pieces in range(2, 65):
            text = deep_parens(pieces) + "/"
            self.assertEqual(text.count("A1"), pieces)
            self.assertTrue(is_text(text), text)
            self.right(text)
        self.assertGreater(deep_parens(64).count("("), 40)
        self.wrong(deep_parens(65) + "/", deep_parens(66) + "/", deep_parens(67) + "/", deep_parens(300) + "/")
        self.wrong("(" + deep_parens(64) + "/", deep_parens(64) + ")/", deep_parens(64).replace("A1:A1", "A1&A1") + "/")

    def test_nested_as_deep_as_the_text_is_long(self):
        self.wrong("(" * 2047 + "/", "(" * 2048, "A1[n" * 512, "A1[n" * 511 + "A1/", deep_nests(400) + "/",
                   "(" * 1000 + "A1:A2" + ")" * 1000 + "/", "(A1*" * 500, "<" * 2048, "(A1[n" * 400)

    def test_sixty_four_elements_of_a_line_and_sixty_five(self):
        for element in ("A1", "_1", "...", "<A1 A2>", "A1*A2"):
            self.right(" ".join([element] * 64) + "/", " ".join([element] * 64) + "/A1/")
            self.wrong(" ".join([element] * 65) + "/", "A1/" + " ".join([element] * 65) + "/", " ".join([element] * 64) + " /")
        self.right(" ".join(["A1", "...", "<A1>", "_1"] * 16) + "/", (" ".join(["A1"] * 64) + "/") * 3)
        self.wrong(" ".join(["A1", "...", "<A1>", "_1"] * 16) + " .../")

    def test_sixteen_blocks_of_a_ring_and_seventeen(self):
        for block in ("A1", "_1", "A1*A2:A1", "A1[nA2]"):
            self.right("<" + " ".join([block] * 16) + ">/", ("<" + " ".join([block] * 16) + ">/") * 2)
            self.wrong("<" + " ".join([block] * 17) + ">/", "<" + " ".join([block] * 16) + " >/")
        self.right(" ".join(["<" + " ".join(["A1"] * 16) + ">"] * 40) + "/")

    def test_512_lines_and_513(self):
        self.right("A1/" * 512, "_1/" * 511 + "A1/", ".../" * 511 + "A1/")
        self.wrong("A1/" * 513, "_1/" * 512 + "A1/", "A1/" * 512 + "A1", "A1/" * 512 + "/", "A1/" * 682)

    def test_each_short_row_of_tokens(self):
        for size in (1, 2, 3):
            for tokens in itertools.product(TOKENS, repeat=size):
                text = "".join(tokens)
                self.assertEqual(is_right(text), is_text(text), text)
                self.assertEqual(is_right(text + "/"), is_text(text + "/"), text)

    def test_parts_of_more_tokens(self):
        for tokens in itertools.product("()*:&", repeat=4):
            joined = "A1".join(tokens)
            for text in (joined + "/", "A1" + joined + "A1/", "A1" + joined + "/", "(" + joined + "A1/",
                         "(A1:" + joined + ")*A1/", "(A1" + joined + "A1)&A1/"):
                self.assertEqual(is_right(text), is_text(text), text)

    def test_each_byte_changed(self):
        text = "A1~%13?[nwA2;c_2]*(B1:A1)& ... <A1 Aa15>/_3%1234/"
        text = text.replace("& ", "&(A1*A2) ")
        self.assertTrue(is_text(text))
        for place in range(len(text)):
            self.assertEqual(is_right(text[:place]), is_text(text[:place]), text[:place])
            for byte in range(256):
                letter = "/" if byte == 10 else chr(byte)
                # The byte of "/" itself is no line's end, and no text has it.
                expected = byte != 47 and is_text(text[:place] + letter + text[place + 1:])
                changed = as_bytes(text)
                changed[place] = byte
                answer = next_of(0, 0, as_bytes(SIGNS), changed, as_bytes("."))
                self.assertEqual(answer != [-6], expected, changed)

    def test_right_texts_along_the_grammar_and_changed_ones(self):
        made = RandomText(5)
        wrong = 0
        for step in range(1500):
            text = made.text()
            if len(text) > 300 or max(text.count("A"), text.count("_") + text.count("A")) > 60:
                continue
            self.assertTrue(is_text(text), text)
            self.assertTrue(is_right(text), text)
            for change in range(3):
                at = made.random.randrange(len(text))
                token = made.random.choice(TOKENS + ("", "", "1", "n"))
                changed = text[:at] + token + text[at + made.random.randint(0, 1):]
                self.assertEqual(is_right(changed), is_text(changed), changed)
                wrong += not is_text(changed)
        self.assertGreater(wrong, 500)


if __name__ == "__main__":
    unittest.main()
