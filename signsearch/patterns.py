"""Patterns, read as lists of atoms.

Each read_.. answers None where the pattern is at fault; the cursor then stands at the fault's place.
"""

from signsearch.marks import BANG, BLANK, BRACE, COMMA, DOT, END_BRACE, EQUALS, STAR
from signsearch.names import read_letters, read_name, read_name_behind

MOST_ATOMS = 64
MOST_NAMES = 16

RUN = "run"
ANY = "any"
ALIKE = "alike"
CLASS = "class"
NAMES = "names"


# what: of ALIKE a name, of CLASS its letters, of NAMES a list of names.
class Atom:
    def __init__(self, kind, what, denied):
        self.kind = kind
        self.what = what
        self.denied = denied


def atom_of(kind, what, denied):
    if what is None:
        return None
    return Atom(kind, what, denied)


def read_dots(cursor, denied):
    # `!..` is no atom: its second dot is left unread and so is the fault.
    if not denied and cursor.take(DOT):
        return Atom(RUN, None, False)
    return Atom(ANY, None, denied)


def read_names(cursor):
    names = []
    while True:
        name = read_name(cursor)
        if name is None:
            return None
        names.append(name)
        if cursor.take(END_BRACE):
            return names
        if len(names) == MOST_NAMES or not cursor.take(COMMA):
            return None


# A name and a class begin alike; what stands behind the letters tells.
def read_name_or_class(cursor, denied):
    letters = read_letters(cursor)
    if letters is None:
        return None
    if cursor.take(STAR):
        return Atom(CLASS, letters, denied)
    name = read_name_behind(letters, cursor)
    if name is None:
        return None
    return Atom(NAMES, [name], denied)


def read_atom(cursor):
    denied = cursor.take(BANG)
    if cursor.take(DOT):
        return read_dots(cursor, denied)
    if cursor.take(EQUALS):
        return atom_of(ALIKE, read_name(cursor), denied)
    if cursor.take(BRACE):
        return atom_of(NAMES, read_names(cursor), denied)
    return read_name_or_class(cursor, denied)


def read_pattern(cursor):
    atoms = []
    while True:
        atom = read_atom(cursor)
        if atom is None:
            return None
        atoms.append(atom)
        if cursor.at_end():
            return atoms
        if len(atoms) == MOST_ATOMS or not cursor.take(BLANK):
            return None
