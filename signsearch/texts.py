"""Texts, read as lists of their pieces and lost elements.

Each read_.. answers None where the text is wrong.
"""

from signsearch.blocks import read_block
from signsearch.marks import BLANK, DOT, END_RING, LINE_END, RING
from signsearch.pieces import lost_item

MOST_LINES = 512
MOST_LINE_PARTS = 64
MOST_RING_PARTS = 16


# read_one answers a list of items: of a ring's block, of a line's element.
def read_with_blanks(read_one, most, end_mark, cursor):
    items = []
    for step in range(most):
        more = read_one(cursor)
        if more is None:
            return None
        items.extend(more)
        if cursor.take(end_mark):
            return items
        if not cursor.take(BLANK):
            return None
    return None


def read_lost(cursor):
    if cursor.take(DOT) and cursor.take(DOT) and cursor.take(DOT):
        return [lost_item()]
    return None


def read_element(cursor):
    if cursor.take(RING):
        return read_with_blanks(read_block, MOST_RING_PARTS, END_RING, cursor)
    if cursor.peek() == DOT:
        return read_lost(cursor)
    return read_block(cursor)


def read_text(cursor):
    items = []
    lines = 0
    while lines == 0 or not cursor.at_end():
        line = read_with_blanks(read_element, MOST_LINE_PARTS, LINE_END, cursor)
        if line is None or lines == MOST_LINES:
            return None
        items.extend(line)
        lines += 1
    return items
