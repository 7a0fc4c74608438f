"""What a text is made of: signs and gaps, which are its pieces, and lost elements.

Each read_.. answers None where the text is wrong.
"""

from signsearch.marks import DIGIT_0, PERCENT, QUERY, TILDE, UNDERLINE
from signsearch.names import read_name, read_number

SIGN = "sign"
GAP = "gap"
LOST = "lost"

ALL_QUARTERS = (1, 2, 3, 4)
MOST_GAP_CELLS = 32


# what: of a SIGN its name, of a GAP how many cells it's wide and high; quarters: those that are damaged.
class Item:
    def __init__(self, kind, what, quarters, mirrored, uncertain):
        self.kind = kind
        self.what = what
        self.quarters = quarters
        self.mirrored = mirrored
        self.uncertain = uncertain

    # A gap is one if it's damaged all over.
    def is_place(self):
        return self.kind == SIGN or self.kind == GAP and len(self.quarters) == len(ALL_QUARTERS)


def lost_item():
    return Item(LOST, None, [], False, False)


def pieces_of(items):
    return [item for item in items if item.kind != LOST]


# For each place the number of its piece.
def places_of(pieces):
    return [number for number, piece in enumerate(pieces) if piece.is_place()]


# Each quarter is asked for once, so one that doesn't rise is left unread: no right text goes on with it.
def read_quarters(cursor):
    if not cursor.take(PERCENT):
        return []
    quarters = []
    for quarter in ALL_QUARTERS:
        if cursor.take(DIGIT_0 + quarter):
            quarters.append(quarter)
    if quarters == []:
        return None
    return quarters


def read_gap(cursor):
    size = read_number(cursor)
    if size == 0 or size > MOST_GAP_CELLS:
        return None
    quarters = read_quarters(cursor)
    if quarters is None:
        return None
    return Item(GAP, size, quarters, False, False)


def read_sign_without_nests(cursor):
    name = read_name(cursor)
    if name is None:
        return None
    mirrored = cursor.take(TILDE)
    quarters = read_quarters(cursor)
    if quarters is None:
        return None
    uncertain = cursor.take(QUERY)
    return Item(SIGN, name, quarters, mirrored, uncertain)


def read_piece(cursor):
    if cursor.take(UNDERLINE):
        return read_gap(cursor)
    return read_sign_without_nests(cursor)
