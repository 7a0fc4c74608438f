"""Which signs of a list an atom has."""

from signsearch.names import class_of
from signsearch.patterns import ALIKE, ANY, CLASS
from signsearch.shapes import all_alike


def shapes_alike(name, signs):
    for sign in signs:
        if sign.name == name:
            return all_alike(sign.shape)
    return []


# shapes: of an ALIKE atom those that it has, worked out once for all signs.
def is_of(sign, atom, shapes):
    if atom.kind == ANY:
        return True
    if atom.kind == ALIKE:
        return sign.shape in shapes
    if atom.kind == CLASS:
        return class_of(sign.name) == atom.what
    return sign.name in atom.what


def signs_of(atom, signs):
    shapes = shapes_alike(atom.what, signs) if atom.kind == ALIKE else []
    numbers = []
    for number, sign in enumerate(signs):
        if is_of(sign, atom, shapes) != atom.denied:
            numbers.append(number)
    return numbers
