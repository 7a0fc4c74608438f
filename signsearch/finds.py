"""The calls: each answers a list, its first number the answer or, below 0, a refusal."""

from signsearch.cursor import Cursor
from signsearch.members import signs_of
from signsearch.patterns import RUN, read_pattern
from signsearch.signlist import read_list

MOST_LIST_BYTES = 1048576
MOST_PATTERN_BYTES = 4096

TOO_LONG = -2
NO_LIST = -3
NOT_THERE = -4
NONE_TO_TELL = -5
JUDGED_WRONG = -6
NO_PATTERN = -10


def judge(p):
    if len(p) > MOST_PATTERN_BYTES:
        return [TOO_LONG]
    cursor = Cursor(p)
    atoms = read_pattern(cursor)
    if atoms is None:
        return [JUDGED_WRONG, cursor.at]
    return [len(atoms)]


def set_of(k, b, p):
    if len(b) > MOST_LIST_BYTES or len(p) > MOST_PATTERN_BYTES:
        return [TOO_LONG]
    signs = read_list(Cursor(b))
    if signs is None:
        return [NO_LIST]
    atoms = read_pattern(Cursor(p))
    if atoms is None:
        return [NO_PATTERN]
    if k >= len(atoms):
        return [NOT_THERE]
    if atoms[k].kind == RUN:
        return [NONE_TO_TELL]
    numbers = signs_of(atoms[k], signs)
    return [len(numbers)] + numbers
