"""What several tests need: texts as lists of bytes, small lists of signs, and answers worked out the long way."""

import functools
import itertools
import random
import re

# The list of the document's run: "/" stands for the byte 10.
RUN_LIST = "sign A1/##./#.#/sign A2/#/sign A3/###/#.#/"
RUN_TEXT = "A1 A2*A1 A3/"
RUN_TEXT_WITH_DAMAGE = "A1%2 ... A2/"


def as_bytes(text):
    return list(text.replace("/", "\n").encode("latin-1"))


def sign_text(name, rows="#", sounds=()):
    return " ".join(("sign", name) + tuple(sounds)) + "/" + "".join(row + "/" for row in rows.split("/"))


def list_of(*names):
    return "".join(sign_text(name) for name in names)


def long_pattern(size):
    """A right pattern of 64 atoms and so many bytes, 4,095 to 4,097."""
    short = "{" + ",".join(["A12"] * 14 + ["A1"] * 2) + "}"
    atoms = ["!" + short] + [short] * 63
    for step in range(size - 4096):
        atoms[step + 1] = "!" + atoms[step + 1]
    if size == 4095:
        atoms[0] = short
    pattern = " ".join(atoms)
    assert len(pattern) == size, len(pattern)
    return pattern


def long_text(size):
    """A right text of so many bytes: A1 again and again, the last one A10 or A100 where that's needed."""
    names = ["A1"] * (size // 3)
    names[-1] += "0" * (size % 3)
    lines = [" ".join(names[at:at + 64]) for at in range(0, len(names), 64)]
    text = "".join(line + "/" for line in lines)
    assert len(text) == size, len(text)
    return text


class Fixed(list):
    """A list that can be read alone: what would change it fails, though it were changed for a while alone."""

    def fail(self, *args, **kwargs):
        raise AssertionError("what is handed in is changed")

    append = extend = insert = pop = remove = clear = sort = reverse = fail
    __setitem__ = __delitem__ = __iadd__ = __imul__ = fail


# Texts, by the grammar as the document writes it: for each rule all places where it can end.

NAME = re.compile("[A-Z][a-z]?[1-9][0-9]{0,2}[a-z]?")
QUARTERS = "(?:%(?=[1-4])1?2?3?4?)?"
MARKS = re.compile("~?" + QUARTERS + r"\??")
GAP = re.compile("_(?:[1-9]|[12][0-9]|3[0-2])(?![0-9])" + QUARTERS)
NEST_PLACES = ("nw", "n", "ne", "w", "c", "e", "sw", "s", "se")


def repeated(rule, mark, least, text, ends):
    found = set()
    count = 1
    while ends:
        if count >= least:
            found |= ends
        ends = {end for at in ends if text[at:at + 1] == mark for end in rule(text, at + 1)}
        count += 1
    return frozenset(found)


@functools.lru_cache(maxsize=None)
def column(text, at):
    return repeated(cell, ":", 2, text, cell(text, at))


@functools.lru_cache(maxsize=None)
def cell(text, at):
    return row(text, at) | pile(text, at) | single(text, at)


@functools.lru_cache(maxsize=None)
def row(text, at):
    return repeated(seat, "*", 2, text, seat(text, at))


@functools.lru_cache(maxsize=None)
def seat(text, at):
    return in_parens(column, text, at) | pile(text, at) | single(text, at)


@functools.lru_cache(maxsize=None)
def pile(text, at):
    return repeated(sheet, "&", 2, text, sheet(text, at))


@functools.lru_cache(maxsize=None)
def sheet(text, at):
    return in_parens(column, text, at) | in_parens(row, text, at) | single(text, at)


def in_parens(rule, text, at):
    if text[at:at + 1] != "(":
        return frozenset()
    return frozenset(end + 1 for end in rule(text, at + 1) if text[end:end + 1] == ")")


@functools.lru_cache(maxsize=None)
def part(text, at):
    return column(text, at) | row(text, at) | pile(text, at) | single(text, at)


@functools.lru_cache(maxsize=None)
def nest(text, at):
    return frozenset(end for place in NEST_PLACES if text.startswith(place, at) for end in part(text, at + len(place)))


@functools.lru_cache(maxsize=None)
def single(text, at):
    gap = GAP.match(text, at)
    if gap:
        return frozenset([gap.end()])
    name = NAME.match(text, at)
    if not name:
        return frozenset()
    end = MARKS.match(text, name.end()).end()
    nests = repeated(nest, ";", 1, text, nest(text, end + 1)) if text[end:end + 1] == "[" else ()
    return frozenset([end] + [last + 1 for last in nests if text[last:last + 1] == "]"])


def element(text, at):
    if text.startswith("...", at):
        return frozenset([at + 3])
    if text[at:at + 1] != "<":
        return part(text, at)
    blocks = repeated(part, " ", 1, text, part(text, at + 1))
    return frozenset(end + 1 for end in blocks if text[end:end + 1] == ">")


def is_text(text):
    """By the grammar alone, without the limits of how many; "/" stands for the byte 10."""
    lines = text.split("/")
    return len(lines) > 1 and lines.pop() == "" and all(
        len(line) in repeated(element, " ", 1, line, element(line, 0)) for line in lines)


# Finds, by the words of the document: all rows of signs up to the length that matters are tried.

def parts_into(units, signs):
    """Whether the signs can be parted into one for each set and a run for each None."""
    if not units:
        return not signs
    if units[0] is None:
        return any(parts_into(units[1:], signs[size:]) for size in range(len(signs) + 1))
    return bool(signs) and signs[0] in units[0] and parts_into(units[1:], signs[1:])


def rows_of_signs(count, longest):
    for size in range(longest + 1):
        yield from itertools.product(range(count), repeat=size)


def finds_of(how, count, text_row, atoms):
    """For each start with a find its least end; text_row and atoms: sets, None for a break and for `..`."""
    at = [number for number, unit in enumerate(text_row) if unit is not None]
    longest = len(at) + len(atoms)
    fitting = [signs for signs in rows_of_signs(count, longest) if parts_into(atoms, signs)]
    finds = []
    for start, first in enumerate(at):
        for end in range(start, len(at)):
            stretch = text_row[first:at[end] + 1]
            sure = all(unit is not None and len(unit) == 1 for unit in stretch)
            if (sure or how == 0) and any(parts_into(stretch, signs) for signs in fitting):
                finds.append((start, end))
                break
    return finds


# A list of three signs, what places of its texts may be, and what its patterns' atoms have.
SMALL_LIST = sign_text("A1", "##/#.") + sign_text("A2", "##/##") + sign_text("B1", "###/#.#/###")
SMALL_ITEMS = {
    "A1": {0}, "A2": {1}, "B1": {2}, "A1~": {0}, "A1?": {0, 1}, "A1%4": {0, 1}, "A1%1": {0}, "B1?": {2}, "B1%1234?": {2},
    "_1%1234": set(), "_2%1234": {0, 1}, "_3%1234": {0, 1, 2},
}
SMALL_ATOMS = {
    "A1": {0}, "A2": {1}, "B1": {2}, "A*": {0, 1}, ".": {0, 1, 2}, "!A1": {1, 2}, "{A1,B1}": {0, 2}, "Z9": set(), "!.": set(),
}
GAPS_WITHOUT_PLACE = ("_1", "_32", "_3%123")


def small_text(source, places):
    """A random text of up to so many places, and its row."""
    elements = []
    text_row = []
    for step in range(places):
        kind = source.random()
        if kind < 0.25:
            elements.append("...")
            text_row.append(None)
        if kind < 0.1:
            elements.append("...")
            text_row.append(None)
        if kind > 0.9:
            elements.append(source.choice(GAPS_WITHOUT_PLACE))
        else:
            elements.append(source.choice(list(SMALL_ITEMS) + ["A1", "A2", "B1"]))
            text_row.append(SMALL_ITEMS[elements[-1]])
    if source.random() < 0.2:
        elements.append("...")
        text_row.append(None)
    text = elements[0]
    for before, behind in zip(elements, elements[1:]):
        text += source.choice(" /") if "..." in (before, behind) else source.choice(" /:*&")
        text += behind
    # Marks between pieces don't matter for the row.
    return text + "/", text_row


def small_pattern(source, atoms):
    chosen = [source.choice(list(SMALL_ATOMS) + [".."] * 4) for step in range(source.randint(1, atoms))]
    return " ".join(chosen), [SMALL_ATOMS.get(atom) for atom in chosen]


def small_cases(seed, count):
    """Random texts and patterns, the same each time: the text, its row, the pattern, its atoms' signs."""
    source = random.Random(seed)
    for step in range(count):
        text, text_row = small_text(source, source.randint(1, 4))
        pattern, atoms = small_pattern(source, 3)
        yield text, text_row, pattern, atoms
