"""What a call asks of, read; or the first refusal that holds."""

from signsearch.cursor import Cursor
from signsearch.patterns import read_pattern
from signsearch.possible import names_are_known
from signsearch.search import SURELY
from signsearch.signlist import read_list
from signsearch.texts import read_text

MOST_LIST_BYTES = 1048576
MOST_TEXT_BYTES = 2048
MOST_TEXT_BYTES_OF_PIECES = 65536
MOST_PATTERN_BYTES = 4096

NO_REFUSAL = 0
NO_SUCH_HOW = -1
TOO_LONG = -2
NO_LIST = -3
NO_TEXT = -6
UNKNOWN_SIGN = -9
NO_PATTERN = -10


# What was read of the list, the text (its items) and the pattern.
class Asked:
    def __init__(self, refusal, signs, text, atoms):
        self.refusal = refusal
        self.signs = signs
        self.text = text
        self.atoms = atoms


def refused(refusal):
    return Asked(refusal, [], [], [])


# What a call isn't handed, t or p, is None. The refusals stand in the order in which they're to be told.
def read_asked(b, t, p):
    signs = read_list(Cursor(b))
    if signs is None:
        return refused(NO_LIST)
    text = [] if t is None else read_text(Cursor(t))
    if text is None:
        return refused(NO_TEXT)
    atoms = [] if p is None else read_pattern(Cursor(p))
    if atoms is None:
        return refused(NO_PATTERN)
    if not names_are_known(text, signs):
        return refused(UNKNOWN_SIGN)
    return Asked(NO_REFUSAL, signs, text, atoms)


def ask_pattern(b, p):
    if len(b) > MOST_LIST_BYTES or len(p) > MOST_PATTERN_BYTES:
        return refused(TOO_LONG)
    return read_asked(b, None, p)


def ask_search(how, b, t, p):
    if len(b) > MOST_LIST_BYTES or len(t) > MOST_TEXT_BYTES or len(p) > MOST_PATTERN_BYTES:
        return refused(TOO_LONG)
    if how > SURELY:
        return refused(NO_SUCH_HOW)
    return read_asked(b, t, p)


def ask_pieces(b, t):
    if len(b) > MOST_LIST_BYTES or len(t) > MOST_TEXT_BYTES_OF_PIECES:
        return refused(TOO_LONG)
    return read_asked(b, t, None)
