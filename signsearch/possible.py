"""What a text may have been: for each place the signs' numbers, rising."""

from signsearch.pieces import LOST, SIGN
from signsearch.names import class_of
from signsearch.shapes import cells_outside, height_of, width_of


def numbers_by_name(signs):
    numbers = {}
    for number, sign in enumerate(signs):
        numbers[sign.name] = number
    return numbers


def names_are_known(items, signs):
    numbers = numbers_by_name(signs)
    for item in items:
        if item.kind == SIGN and item.what not in numbers:
            return False
    return True


def has_size_of(sign, other):
    return width_of(sign.shape) == width_of(other.shape) and height_of(sign.shape) == height_of(other.shape)


def is_within(sign, size):
    return width_of(sign.shape) <= size and height_of(sign.shape) <= size


# whole: the cells that aren't damaged, as a set of cells.
def looks_like(sign, other, whole):
    return has_size_of(sign, other) and ((sign.ink ^ other.ink) & whole) == 0


def signs_of_gap(gap, signs):
    return [number for number, sign in enumerate(signs) if is_within(sign, gap.what)]


def signs_by_damage(piece, own, signs):
    whole = cells_outside(piece.quarters, piece.mirrored, own.shape)
    return [number for number, sign in enumerate(signs) if looks_like(sign, own, whole)]


def signs_by_class(own, signs):
    return [number for number, sign in enumerate(signs) if class_of(sign.name) == class_of(own.name)]


def signs_of_sign(piece, number, signs):
    if piece.quarters == [] and not piece.uncertain:
        return [number]
    own = signs[number]
    by_damage = signs_by_damage(piece, own, signs) if piece.quarters != [] else []
    by_class = signs_by_class(own, signs) if piece.uncertain else []
    return sorted(set(by_damage) | set(by_class))


# The text's row: for each place its signs, for each break None. The names are known.
def row_of(items, signs):
    numbers = numbers_by_name(signs)
    row = []
    for item in items:
        if item.kind == LOST:
            row.append(None)
        elif item.kind == SIGN:
            row.append(signs_of_sign(item, numbers[item.what], signs))
        elif item.is_place():
            row.append(signs_of_gap(item, signs))
    return row
