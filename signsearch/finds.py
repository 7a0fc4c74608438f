"""The calls: each answers a list, its first number the answer or, below 0, a refusal."""

from signsearch.asked import MOST_PATTERN_BYTES, NO_REFUSAL, TOO_LONG, ask_pattern, ask_pieces, ask_search
from signsearch.cursor import Cursor
from signsearch.fitter import Fitter, row_fits
from signsearch.members import signs_of
from signsearch.patterns import RUN, read_pattern
from signsearch.pieces import pieces_of, places_of
from signsearch.possible import row_of
from signsearch.search import Search

MOST_ROW_NUMBERS = 65536

NOT_THERE = -4
NONE_TO_TELL = -5
JUDGED_WRONG = -6


def judge(p):
    if len(p) > MOST_PATTERN_BYTES:
        return [TOO_LONG]
    cursor = Cursor(p)
    atoms = read_pattern(cursor)
    if atoms is None:
        return [JUDGED_WRONG, cursor.at]
    return [len(atoms)]


def set_of(k, b, p):
    asked = ask_pattern(b, p)
    if asked.refusal != NO_REFUSAL:
        return [asked.refusal]
    if k >= len(asked.atoms):
        return [NOT_THERE]
    if asked.atoms[k].kind == RUN:
        return [NONE_TO_TELL]
    numbers = signs_of(asked.atoms[k], asked.signs)
    return [len(numbers)] + numbers


def fits(b, p, r):
    if len(r) > MOST_ROW_NUMBERS:
        return [TOO_LONG]
    asked = ask_pattern(b, p)
    if asked.refusal != NO_REFUSAL:
        return [asked.refusal]
    if max(r, default=0) >= len(asked.signs):
        return [NOT_THERE]
    return [1 if row_fits(r, Fitter(asked.atoms, asked.signs)) else 0]


# Only of what isn't refused.
def search_of(how, asked):
    return Search(how, row_of(asked.text, asked.signs), Fitter(asked.atoms, asked.signs))


def next_of(how, i, b, t, p):
    asked = ask_search(how, b, t, p)
    if asked.refusal != NO_REFUSAL:
        return [asked.refusal]
    search = search_of(how, asked)
    if i >= len(search.places):
        return [NOT_THERE]
    find = search.first_find(i)
    if find is None:
        return [NONE_TO_TELL]
    return [0, find[0], find[1]]


def count(how, b, t, p):
    asked = ask_search(how, b, t, p)
    if asked.refusal != NO_REFUSAL:
        return [asked.refusal]
    return [len(search_of(how, asked).all_finds())]


def told(finds):
    answer = [len(finds)]
    for find in finds:
        answer.extend(find)
    return answer


def all_of(how, b, t, p):
    asked = ask_search(how, b, t, p)
    if asked.refusal != NO_REFUSAL:
        return [asked.refusal]
    return told(search_of(how, asked).all_finds())


def order(how, b, t, p):
    asked = ask_search(how, b, t, p)
    if asked.refusal != NO_REFUSAL:
        return [asked.refusal]
    return told(search_of(how, asked).finds_in_order())


def place(i, b, t):
    asked = ask_pieces(b, t)
    if asked.refusal != NO_REFUSAL:
        return [asked.refusal]
    places = places_of(pieces_of(asked.text))
    if i >= len(places):
        return [NOT_THERE]
    return [places[i]]


def piece(k, b, t):
    asked = ask_pieces(b, t)
    if asked.refusal != NO_REFUSAL:
        return [asked.refusal]
    pieces = pieces_of(asked.text)
    if k >= len(pieces):
        return [NOT_THERE]
    if not pieces[k].is_place():
        return [NONE_TO_TELL]
    return [len(places_of(pieces[:k]))]
