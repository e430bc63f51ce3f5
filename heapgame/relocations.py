"""Relocations of layouts: a start for every block, perhaps in another order."""

from heapgame.layouts import is_layout, live_cells


def placed(layout, starts):
    """Return the blocks at their new starts, in the order of the layout."""
    return [(start, length) for (_, length), start in zip(layout, starts)]


def relocated(layout, starts):
    """Return the layout behind a relocation."""
    return sorted(placed(layout, starts))


def cost(layout, starts):
    """Count the cells of the moved blocks."""
    return live_cells([block for block, start in zip(layout, starts) if block[0] != start])


def is_relocation(size, layout, starts):
    """Tell whether a list of integers is a relocation of a layout."""
    return len(starts) == len(layout) and is_layout(size, relocated(layout, starts))


def keeps_order(layout, starts):
    """Tell whether a relocation leaves the blocks in their order."""
    return relocated(layout, starts) == placed(layout, starts)
