"""Shapes of signs: lists of rows from the top, each a list of cells.

Sets of cells are whole numbers, a bit for each cell, in the order of rows: so many signs are compared fast.
"""

from signsearch.marks import INK


def mirrored(shape):
    return [row[::-1] for row in shape]


def turned(shape):
    rows = []
    for x in range(len(shape[0])):
        rows.append([row[x] for row in reversed(shape)])
    return rows


def with_its_turns(shape):
    shapes = [shape]
    for step in range(3):
        shapes.append(turned(shapes[step]))
    return shapes


def all_alike(shape):
    return with_its_turns(shape) + with_its_turns(mirrored(shape))


def width_of(shape):
    return len(shape[0])


def height_of(shape):
    return len(shape)


def ink_cells(shape):
    cells = 0
    for row in shape:
        for cell in row:
            cells = cells * 2 + (1 if cell == INK else 0)
    return cells


def quarter_of(x, y, shape):
    right = 0 if x < width_of(shape) // 2 else 1
    lower = 0 if y < height_of(shape) // 2 else 1
    return 1 + right + 2 * lower


# The shape's own cells that aren't seen in one of these quarters when it's seen mirrored or not.
def cells_outside(quarters, mirror, shape):
    width = width_of(shape)
    cells = 0
    for y in range(height_of(shape)):
        for x in range(width):
            seen_x = width - 1 - x if mirror else x
            cells = cells * 2 + (0 if quarter_of(seen_x, y, shape) in quarters else 1)
    return cells
