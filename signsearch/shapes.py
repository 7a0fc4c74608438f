"""Shapes of signs: lists of rows from the top, each a list of cells."""


def mirrored(shape):
    return [row[::-1] for row in shape]


def turned(shape):
    rows = []
    for x in range(len(shape[0])):
        rows.append([row[x] for row in reversed(shape)])
    return rows


def with_its_turns(shape):
    shapes = [shape]
    for step in range(3):
        shapes.append(turned(shapes[step]))
    return shapes


def all_alike(shape):
    return with_its_turns(shape) + with_its_turns(mirrored(shape))
