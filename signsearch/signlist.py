"""Lists of signs, read from their texts.

Each read_.. answers None where the text is no right list.
"""

from signsearch.marks import BLANK, DOT, INK, LINE_END
from signsearch.names import read_name, take_small_letter
from signsearch.shapes import ink_cells

SIGN_AND_BLANK = (115, 105, 103, 110, 32)
MOST_SIGNS = 512
MOST_SOUNDS = 8
MOST_LETTERS = 8
MOST_CELLS = 32


# ink: the shape's cells with ink, as a set of cells.
class Sign:
    def __init__(self, name, shape):
        self.name = name
        self.shape = shape
        self.ink = ink_cells(shape)


# What is too long for a limit is left unread: no right list goes on with it.
def read_sound(cursor):
    letters = []
    while len(letters) < MOST_LETTERS:
        letter = take_small_letter(cursor)
        if letter == 0:
            break
        letters.append(letter)
    return letters


# Sounds only make a list right or wrong; no call asks for them.
def pass_sounds(cursor):
    sounds = []
    while cursor.take(BLANK):
        sound = read_sound(cursor)
        if sound == [] or sound in sounds or len(sounds) == MOST_SOUNDS:
            return False
        sounds.append(sound)
    return True


def pass_word(cursor):
    for byte in SIGN_AND_BLANK:
        if not cursor.take(byte):
            return False
    return True


def read_heading(cursor):
    if not pass_word(cursor):
        return None
    name = read_name(cursor)
    if name is None:
        return None
    if not pass_sounds(cursor) or not cursor.take(LINE_END):
        return None
    return name


def read_row(cursor):
    cells = []
    while len(cells) < MOST_CELLS and cursor.peek() in (INK, DOT):
        cell = cursor.peek()
        cursor.take(cell)
        cells.append(cell)
    if not cursor.take(LINE_END):
        return None
    return cells


def is_shape(rows):
    if rows == []:
        return False
    if [row for row in rows if len(row) != len(rows[0])] != []:
        return False
    left = [row[0] for row in rows]
    right = [row[-1] for row in rows]
    return INK in rows[0] and INK in rows[-1] and INK in left and INK in right


def read_shape(cursor):
    rows = []
    while len(rows) < MOST_CELLS and cursor.peek() in (INK, DOT):
        row = read_row(cursor)
        if row is None:
            return None
        rows.append(row)
    if not is_shape(rows):
        return None
    return rows


def read_sign(cursor):
    name = read_heading(cursor)
    if name is None:
        return None
    shape = read_shape(cursor)
    if shape is None:
        return None
    return Sign(name, shape)


def read_list(cursor):
    signs = []
    while not cursor.at_end():
        sign = read_sign(cursor)
        if sign is None or len(signs) == MOST_SIGNS:
            return None
        if signs != [] and sign.name <= signs[-1].name:
            return None
        signs.append(sign)
    if signs == []:
        return None
    return signs
