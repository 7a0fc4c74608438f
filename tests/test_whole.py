"""All nine calls together: the interface, the refusals in their order, the document's run, and the ways to get it wrong."""

import contextlib
import inspect
import io
import itertools
import unittest

from helper import Fixed, RUN_LIST, RUN_TEXT, RUN_TEXT_WITH_DAMAGE, as_bytes, list_of, long_text, sign_text
from signsearch import finds

# For each call its arguments in their order, and what it may be refused with, the first to be told first.
CALLS = {
    "judge": ("p", (-2, -6)),
    "set_of": ("k b p", (-2, -3, -10, -4, -5)),
    "fits": ("b p r", (-2, -3, -10, -4)),
    "next_of": ("how i b t p", (-2, -1, -3, -6, -10, -9, -4, -5)),
    "count": ("how b t p", (-2, -1, -3, -6, -10, -9)),
    "all_of": ("how b t p", (-2, -1, -3, -6, -10, -9)),
    "order": ("how b t p", (-2, -1, -3, -6, -10, -9)),
    "place": ("i b t", (-2, -3, -6, -9, -4)),
    "piece": ("k b t", (-2, -3, -6, -9, -4, -5)),
}
RIGHT = {"how": 0, "i": 0, "k": 0, "b": RUN_LIST, "t": "A1 A2/", "p": "A1", "r": [0]}
LIMITS = {"b": 1048576, "t": 2048, "p": 4096, "r": 65536}


def none_to_tell(name, given):
    given["p"] = ".." if name == "set_of" else "Z9"
    given["t"] = "_1 A1/"


def not_there(name, given):
    given["i"] = given["k"] = 9
    given["r"] = given["r"] + [3]


def unknown_sign(name, given):
    given["t"] = given["t"][:-1] + " B7/"


def wrong_pattern(name, given):
    given["p"] += " "


def wrong_text(name, given):
    given["t"] = given["t"][:-1]


def wrong_list(name, given):
    given["b"] = given["b"][:-1]


def no_such_how(name, given):
    given["how"] = 2


# What makes an input so that it's to be refused; they can be done one behind another, in this order.
FAULTS = {-5: none_to_tell, -4: not_there, -9: unknown_sign, -10: wrong_pattern, -6: wrong_text, -3: wrong_list, -1: no_such_how}


def too_long(name, argument, given):
    most = 65536 if argument == "t" and name in ("place", "piece") else LIMITS[argument]
    times = most // len(given[argument]) + 1
    given[argument] = given[argument] * times
    assert len(given[argument]) > most


def answer_of(name, given):
    arguments = []
    for argument in CALLS[name][0].split():
        value = given[argument]
        arguments.append(as_bytes(value) if isinstance(value, str) else value)
    return getattr(finds, name)(*arguments)


def with_faults(name, refusals):
    given = dict(RIGHT)
    for refusal, fault in FAULTS.items():
        # judge tells -6 of its pattern.
        if refusal in refusals:
            (wrong_pattern if name == "judge" else fault)(name, given)
    return given


def list_of_size(size):
    """A right list of 512 signs and of so many bytes."""
    names = [capital + str(number) for capital in "ABC" for number in range(1, 201)][:512]
    rows = "/".join(["#" * 13] * 13)
    missing = size - sum(len(sign_text(name, rows)) for name in names)
    signs = []
    for name in names:
        sounds = []
        while missing > 1 and len(sounds) < 8:
            sounds.append("abcdefgh"[len(sounds)] * min(8, missing - 1 if missing != 10 else 5))
            missing -= len(sounds[-1]) + 1
        signs.append(sign_text(name, rows, sounds))
    assert sum(len(sign) for sign in signs) == size
    return "".join(signs)


class InterfaceTest(unittest.TestCase):
    def test_names_and_arguments(self):
        for name, (arguments, refusals) in CALLS.items():
            signature = inspect.signature(getattr(finds, name))
            self.assertEqual(list(signature.parameters), arguments.split(), name)

    def test_what_is_told(self):
        answers = {"judge": [1], "set_of": [1, 0], "fits": [1], "next_of": [0, 0, 0], "count": [1], "all_of": [1, 0, 0],
                   "order": [1, 0, 0], "place": [0], "piece": [0]}
        for name, answer in answers.items():
            self.assertEqual(answer_of(name, RIGHT), answer, name)

    def test_nothing_is_printed(self):
        out = io.StringIO()
        with contextlib.redirect_stdout(out), contextlib.redirect_stderr(out):
            for name, (arguments, refusals) in CALLS.items():
                for refusal in (0,) + refusals[1:]:
                    answer_of(name, with_faults(name, [refusal]))
        self.assertEqual(out.getvalue(), "")

    def test_what_is_handed_in_stays_and_nothing_is_kept(self):
        for name, (arguments, refusals) in CALLS.items():
            for refusal in (0,) + refusals[1:]:
                given = with_faults(name, [refusal])
                first = answer_of(name, given)
                values = [given[argument] for argument in arguments.split()]
                values = [as_bytes(value) if isinstance(value, str) else value for value in values]
                fixed = [Fixed(value) if isinstance(value, list) else value for value in values]
                for step in range(2):
                    answer = getattr(finds, name)(*fixed)
                    self.assertEqual(answer, first, name)
                    self.assertEqual(fixed, values, name)
                    answer.append(99)

    def test_calls_do_not_disturb_one_another(self):
        answers = [answer_of(name, RIGHT) for name in CALLS]
        other = dict(RIGHT, b=list_of("A1", "A2"), t="A2? ... A1/", p="!A1 ..", r=[1, 1], how=1)
        others = [answer_of(name, other) for name in CALLS]
        for step in range(2):
            self.assertEqual([answer_of(name, RIGHT) for name in CALLS], answers)
            self.assertEqual([answer_of(name, other) for name in reversed(CALLS)], others[::-1])

    def test_arguments_at_the_sizes_of_the_interface(self):
        large = {"b": list_of_size(100000), "t": long_text(2046), "p": " ".join(["{A1,B2}", ".."] * 32), "r": [0] * 30000,
                 "how": 0, "i": 600, "k": 62}
        self.assertEqual(answer_of("judge", large), [64])
        self.assertEqual(answer_of("set_of", large), [2, 0, 201])
        self.assertEqual(answer_of("fits", large), [1])
        self.assertEqual(answer_of("next_of", large), [0, 600, 631])
        self.assertEqual(answer_of("count", large), [682 - 31])
        self.assertEqual(len(answer_of("all_of", large)), 1 + 2 * (682 - 31))
        self.assertEqual(answer_of("order", large)[:5], [651, 650, 681, 649, 680])
        large["t"] = long_text(65535)
        self.assertEqual(answer_of("place", large), [600])
        self.assertEqual(answer_of("piece", large), [62])

    def test_arguments_at_the_sizes_of_the_interface_that_are_refused(self):
        large = {"b": list_of_size(100000), "t": "A1/" * 700, "p": "A" * 4200, "r": [0] * 30000, "how": 0, "i": 0, "k": 0}
        for name in CALLS:
            if name not in ("place", "piece"):
                self.assertEqual(answer_of(name, large), [-2], name)
        large.update(t="A" * 65600, how=4294967295, i=4294967295, k=4294967295)
        for name in ("place", "piece"):
            self.assertEqual(answer_of(name, large), [-2], name)
        large.update(t="A" * 65536)
        for name in ("place", "piece"):
            self.assertEqual(answer_of(name, large), [-6], name)


class RefusalOrderTest(unittest.TestCase):
    def check(self, name, given, refusal):
        answer = answer_of(name, given)
        if name == "judge" and refusal == -6:
            self.assertEqual(answer, [-6, len(given["p"])])
        else:
            self.assertEqual(answer, [refusal], (name, given if len(str(given)) < 500 else ""))

    def test_each_refusal_by_itself(self):
        for name, (arguments, refusals) in CALLS.items():
            for refusal in refusals[1:]:
                self.check(name, with_faults(name, [refusal]), refusal)

    def test_each_some_of_them_together(self):
        for name, (arguments, refusals) in CALLS.items():
            for size in range(2, len(refusals)):
                for some in itertools.combinations(refusals[1:], size):
                    self.check(name, with_faults(name, some), some[0])

    def test_too_long_before_each_other(self):
        for name, (arguments, refusals) in CALLS.items():
            for argument in set(arguments.split()) & set(LIMITS):
                for some in [()] + [(refusal,) for refusal in refusals[1:]] + [refusals[1:]]:
                    given = with_faults(name, some)
                    too_long(name, argument, given)
                    self.check(name, given, -2)

    def test_what_is_as_long_as_can_be_is_read(self):
        for name, (arguments, refusals) in CALLS.items():
            longest = {"b": "#" * 1048576, "p": "a" * 4096, "t": "A" * (65536 if name in ("place", "piece") else 2048)}
            for argument, refusal in (("b", -3), ("t", -6), ("p", -10)):
                if argument in arguments.split() and name != "judge":
                    self.assertEqual(answer_of(name, dict(RIGHT, **{argument: longest[argument]})), [refusal], name)
        self.assertEqual(answer_of("judge", {"p": "a" * 4096}), [-6, 0])
        self.assertEqual(answer_of("fits", dict(RIGHT, p="..", r=[0] * 65536)), [1])


class RunTest(unittest.TestCase):
    def all_and_count(self, how, text, pattern):
        given = {"how": how, "b": RUN_LIST, "t": text, "p": pattern}
        answer = answer_of("all_of", given)
        self.assertEqual(answer_of("count", given), answer[:1])
        in_order = answer_of("order", given)
        pairs = [list(zip(told[1::2], told[2::2])) for told in (answer, in_order)]
        self.assertEqual(pairs[0], sorted(pairs[1]))
        return answer

    def test_the_first_text(self):
        given = (as_bytes(RUN_LIST), as_bytes(RUN_TEXT))
        self.assertEqual([finds.place(i, *given) for i in range(5)], [[0], [1], [2], [3], [-4]])
        self.assertEqual([finds.piece(k, *given) for k in range(5)], [[0], [1], [2], [3], [-4]])
        for how in (0, 1):
            self.assertEqual(self.all_and_count(how, RUN_TEXT, "A1 .."), [2, 0, 0, 2, 2])
            self.assertEqual(self.all_and_count(how, RUN_TEXT, "A1 .. A3"), [2, 0, 3, 2, 3])
            self.assertEqual(self.all_and_count(how, RUN_TEXT, "!A1"), [2, 1, 1, 3, 3])
            self.assertEqual(self.all_and_count(how, RUN_TEXT, "{A2,A3} A*"), [1, 1, 2])
            self.assertEqual(finds.order(how, *given, as_bytes("A1 ..")), [2, 0, 0, 2, 2])
            self.assertEqual(finds.next_of(how, 1, *given, as_bytes("A1 ..")), [0, 2, 2])
            self.assertEqual(finds.next_of(how, 3, *given, as_bytes("A1 ..")), [-5])
            self.assertEqual(finds.next_of(how, 4, *given, as_bytes("A1 ..")), [-4])

    def test_the_first_text_by_its_signs(self):
        for pattern, stretches in (("A1 ..", ([0], [0, 1])), ("A1 .. A3", ([0, 1, 0, 2], [0, 2])), ("{A2,A3} A*", ([1, 0],))):
            for numbers in stretches:
                self.assertEqual(finds.fits(as_bytes(RUN_LIST), as_bytes(pattern), numbers), [1])

    def test_the_second_text(self):
        for pattern, perhaps, surely in (("A3 A2", [1, 0, 1], [0]), ("A2", [1, 1, 1], [1, 1, 1]), ("A1 A1", [0], [0])):
            self.assertEqual(self.all_and_count(0, RUN_TEXT_WITH_DAMAGE, pattern), perhaps)
            self.assertEqual(self.all_and_count(1, RUN_TEXT_WITH_DAMAGE, pattern), surely)

    def test_faults(self):
        for pattern, place in (("", 0), ("A1 ", 3), ("!..", 2), ("{A1", 3), ("{}", 1), ("A0", 1), ("a", 0), ("A2 ..  A3", 6)):
            self.assertEqual(finds.judge(as_bytes(pattern)), [-6, place])
            for name in ("set_of", "fits", "next_of", "count", "all_of", "order"):
                self.assertEqual(answer_of(name, dict(RIGHT, p=pattern)), [-10], name)


class WrongWaysTest(unittest.TestCase):
    """Each of the ways to get it wrong, by calls that it would answer otherwise."""

    def check(self, text, pattern, finds_told, signs=RUN_LIST, how=0):
        given = {"how": how, "i": 0, "b": signs, "t": text, "p": pattern}
        flat = [number for find in finds_told for number in find]
        self.assertEqual(answer_of("all_of", given), [len(finds_told)] + flat)
        self.assertEqual(answer_of("count", given), [len(finds_told)])
        self.assertEqual(answer_of("next_of", given), [0, *finds_told[0]] if finds_told else [-5])

    def check_order(self, text, pattern, finds_told):
        given = {"how": 0, "b": RUN_LIST, "t": text, "p": pattern}
        flat = [number for find in finds_told for number in find]
        self.assertEqual(answer_of("order", given), [len(finds_told)] + flat)

    def test_the_greatest_end(self):
        self.check("A1 A3 A3/", "A1 .. A3", [(0, 1)])

    def test_a_start_told_twice(self):
        self.check("A1 A2 A2/", "A1 .. A2 ..", [(0, 1)])
        self.check_order("A1 A2 A2/", "A1 .. A2 ..", [(0, 1)])

    def test_a_run_of_one_sign_at_least(self):
        self.check("A1 A2/", "A1 .. A2", [(0, 1)])
        self.assertEqual(answer_of("fits", dict(RIGHT, p="A1 .. A2", r=[0, 1])), [1])

    def test_breaks_behind_the_end_looked_at(self):
        self.check("A1 ... A2/", "A1 A3", [])
        self.check("A1 .../", "A1 A3", [])

    def test_denied_without_the_other_signs_of_the_list(self):
        self.check("A3 A1/", "!{A1,A2}", [(0, 0)])
        self.assertEqual(answer_of("set_of", dict(RIGHT, p="!{A1,Z9}")), [2, 1, 2])

    def test_alike_without_mirrors(self):
        signs = sign_text("A1", "##./#.#/..#") + sign_text("A2", ".##/#.#/#..") + sign_text("B1", "#..##/###..") + sign_text(
            "B2", "##..#/..###")
        self.check("B1 B2/", "=B1", [(0, 0), (1, 1)], signs)
        self.assertEqual(answer_of("set_of", dict(RIGHT, b=signs, p="=A1")), [2, 0, 1])

    def test_a_class_by_its_first_letter(self):
        signs = list_of("A1", "Aa1")
        self.check("A1 Aa1/", "A*", [(0, 0)], signs)
        self.check("A1?/", "Aa1", [], signs)
        self.assertEqual(answer_of("set_of", dict(RIGHT, b=signs, p="A*")), [1, 0])

    def test_surely_over_two_signs(self):
        self.check("A1%2/", ".", [], how=1)
        self.check("A1%2/", ".", [(0, 0)], how=0)

    def test_starts_behind_the_last_find_alone(self):
        self.check("A1 A1 A2/", "A1 .. A2", [(0, 2), (1, 2)])

    def test_a_break_left_out_of_what_follows(self):
        self.check_order("A3 ... A1 A3 A1/", "A3", [(0, 0), (2, 2)])

    def test_an_unknown_name_refused(self):
        self.check("A1/", "Z9", [])
        self.check("A1/", "{Z9,A1}", [(0, 0)])
        self.assertEqual(answer_of("set_of", dict(RIGHT, p="=Z9")), [0])
        self.assertEqual(answer_of("fits", dict(RIGHT, p="!Z9")), [1])

    def test_a_shorter_one_behind_a_longer_one(self):
        self.check_order("A3 A1 A1 A3 A1/", "A3", [(3, 3), (0, 0)])

    def test_gaps_as_places(self):
        self.check("A1 _1 A2/", "A1 A2", [(0, 1)])
        self.assertEqual(answer_of("place", dict(RIGHT, i=1, t="A1 _1 A2/")), [2])
        self.assertEqual(answer_of("piece", dict(RIGHT, k=1, t="A1 _1 A2/")), [-5])


if __name__ == "__main__":
    unittest.main()
