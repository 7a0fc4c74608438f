"""Blocks, read as lists of their pieces.

A wrong text may be nested as deep as it's long, so what isn't ended yet is kept in a list of groups.
"""

from signsearch.marks import (AMPERSAND, BRACKET, COLON, END_BRACKET, END_PAREN, PAREN, SEMICOLON, SMALL_C, SMALL_E,
                              SMALL_N, SMALL_S, SMALL_W, STAR)
from signsearch.pieces import SIGN, read_piece

MOST_PIECES = 64

WHOLE_BLOCK = "whole block"
IN_PARENS = "in parentheses"
IN_NEST = "in a nest"

COLUMN = "column"
ROW = "row"
BARE = "bare"


# A part that isn't ended yet. unit: what was read of it last, a COLUMN or a ROW in parentheses, or BARE without them.
# columned, rowed, piled: whether the part, its last cell and its last seat have more than one within them.
class Group:
    def __init__(self, kind):
        self.kind = kind
        self.begin_part()

    def begin_part(self):
        self.unit = BARE
        self.columned = False
        self.rowed = False
        self.piled = False

    # Only as one of a pile may a row stand in parentheses.
    def may_end_seat(self):
        return self.piled or self.unit != ROW

    # Only as one of a pile or of a row may a column stand in parentheses.
    def may_end_cell(self):
        return self.may_end_seat() and (self.piled or self.rowed or self.unit != COLUMN)

    # Each go_on_.. answers whether what stands before the mark may stand there.
    def go_on_with_pile(self):
        self.piled = True
        return True

    def go_on_with_row(self):
        right = self.may_end_seat()
        self.rowed = True
        self.piled = False
        return right

    def go_on_with_column(self):
        right = self.may_end_cell()
        self.columned = True
        self.rowed = False
        self.piled = False
        return right

    def go_on_with_nest(self):
        right = self.may_end_cell()
        self.begin_part()
        return right

    def as_unit(self):
        if self.columned:
            return COLUMN
        if self.rowed:
            return ROW
        return BARE


def pass_nest_place(cursor):
    if cursor.take(SMALL_N) or cursor.take(SMALL_S):
        # The second letter may be missing, so it doesn't matter whether one is there.
        if not cursor.take(SMALL_W):
            cursor.take(SMALL_E)
        return True
    return cursor.take(SMALL_W) or cursor.take(SMALL_C) or cursor.take(SMALL_E)


def end_parens(cursor, groups):
    unit = groups.pop().as_unit()
    groups[-1].unit = unit
    return unit != BARE and cursor.take(END_PAREN)


def end_group(cursor, groups):
    group = groups[-1]
    if not group.may_end_cell():
        return False
    if group.kind == IN_PARENS:
        return end_parens(cursor, groups)
    groups.pop()
    return group.kind == WHOLE_BLOCK or cursor.take(END_BRACKET)


# Passes all that stands between a piece and the next one's beginning or the block's end.
def pass_joint(cursor, groups):
    while groups != []:
        group = groups[-1]
        if cursor.take(AMPERSAND):
            return group.go_on_with_pile()
        if cursor.take(STAR):
            return group.go_on_with_row()
        if cursor.take(COLON):
            return group.go_on_with_column()
        if group.kind == IN_NEST and cursor.take(SEMICOLON):
            return group.go_on_with_nest() and pass_nest_place(cursor)
        if not end_group(cursor, groups):
            return False
    return True


def pass_behind_piece(piece, cursor, groups):
    groups[-1].unit = BARE
    if piece.kind == SIGN and cursor.take(BRACKET):
        groups.append(Group(IN_NEST))
        return pass_nest_place(cursor)
    return pass_joint(cursor, groups)


# None if there's no right block; the block ends where it can't go on.
def read_block(cursor):
    pieces = []
    groups = [Group(WHOLE_BLOCK)]
    while groups != []:
        while cursor.take(PAREN):
            groups.append(Group(IN_PARENS))
        piece = read_piece(cursor)
        if piece is None or len(pieces) == MOST_PIECES:
            return None
        pieces.append(piece)
        if not pass_behind_piece(piece, cursor, groups):
            return None
    return pieces
