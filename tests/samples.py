"""Layouts for the tests, made without the program: the tests compare it with them."""

import itertools


def block_lists(size):
    """All lists of disjoint ascending blocks in so many cells, in the order of lists."""
    found = [[]]
    for start in range(size):
        for length in range(1, size - start + 1):
            end = start + length
            for rest in block_lists(size - end):
                found.append([(start, length)] + [(other + end, cells) for other, cells in rest])
    return found


def cells_of(layout):
    """The cells of the blocks, block by block."""
    return [cell for start, length in layout for cell in range(start, start + length)]


def free_rows(size, layout):
    """The maximal rows of free cells, found cell by cell."""
    used = set(cells_of(layout))
    rows = []
    for free, row in itertools.groupby(range(size), key=lambda cell: cell not in used):
        row = list(row)
        if free:
            rows.append((row[0], len(row)))
    return rows


def starts_that_fit(size, layout, length):
    """The starts at which a new block has only free cells of the heap."""
    used = set(cells_of(layout))
    return [start for start in range(size - length + 1) if not used.intersection(range(start, start + length))]
