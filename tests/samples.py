"""Layouts for the tests, made without the program: the tests compare it with them."""

import itertools


def block_lists(size):
    """All lists of disjoint ascending blocks in so many cells, in the order of lists."""
    found = [[]]
    for start in range(size):
        for length in range(1, size - start + 1):
            end = start + length
            for rest in block_lists(size - end):
                found.append([(start, length)] + [(other + end, cells) for other, cells in rest])
    return found


def cells_of(layout):
    """The cells of the blocks, block by block."""
    return [cell for start, length in layout for cell in range(start, start + length)]


def free_rows(size, layout):
    """The maximal rows of free cells, found cell by cell."""
    used = set(cells_of(layout))
    rows = []
    for free, row in itertools.groupby(range(size), key=lambda cell: cell not in used):
        row = list(row)
        if free:
            rows.append((row[0], len(row)))
    return rows


def starts_that_fit(size, layout, length):
    """The starts at which a new block has only free cells of the heap."""
    used = set(cells_of(layout))
    return [start for start in range(size - length + 1) if not used.intersection(range(start, start + length))]


def start_by_policy(size, layout, length, policy, cursor):
    """The start that a policy takes, found as promise 8 tells it."""
    fitting = starts_that_fit(size, layout, length)
    if not fitting:
        return None
    if policy == "first":
        return min(fitting)
    if policy == "next":
        return min([start for start in fitting if start >= cursor] or fitting)
    wide = [(cells, start) for start, cells in free_rows(size, layout) if cells >= length]
    target = min(wide)[0] if policy == "best" else max(wide)[0]
    return min(start for cells, start in wide if cells == target)


def lie_apart(size, blocks):
    """Whether blocks, in any order, have no cell in common and lie within the heap."""
    cells = cells_of(blocks)
    return len(set(cells)) == len(cells) and set(cells) <= set(range(size))


def all_relocations(size, layout):
    """All lists of starts, in their order, that put the blocks apart within the heap."""
    every = itertools.product(range(size), repeat=len(layout))
    return [list(starts) for starts in every if lie_apart(size, moved_blocks(layout, starts))]


def moved_blocks(layout, starts):
    """The blocks at new starts, in the order of the layout."""
    return [(starts[index], length) for index, (_, length) in enumerate(layout)]


def cells_moved(layout, starts):
    """The number of cells of the blocks whose start changes."""
    return len([cell for block, start in zip(layout, starts) if block[0] != start for cell in cells_of([block])])


def relocations_in_order(size, layout):
    """The relocations that keep the order, with their costs and the blocks then."""
    return [(cells_moved(layout, starts), starts, moved_blocks(layout, starts))
            for starts in all_relocations(size, layout) if starts == sorted(starts)]


def room_by_trying(size, layout, in_order, pinned, length):
    """The cheapest room; all relocations that keep the order and all starts of the new block are tried."""
    found = []
    for price, starts, blocks in in_order:
        if all(starts[index] == layout[index][0] for index in pinned):
            found += [(price, starts, start) for start in starts_that_fit(size, blocks, length)]
    if not found:
        return None
    price, starts, start = min(found)
    return starts, start, price
