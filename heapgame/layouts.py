"""Layouts of heaps, what is free in them, their texts, and contracts."""

from math import gcd

from heapgame.errors import TextError

FREE = "."
LETTERS = "abcdefghijklmnopqrstuvwxyz"


class Contract:
    """The cells of a heap, and what the program and the manager may do in it."""

    def __init__(self, size, limit, lengths, budget):
        self.size = size
        self.limit = limit
        self.lengths = list(lengths)
        self.budget = budget


def is_layout(size, layout):
    """Tell whether a list of blocks is a layout of a heap of this size."""
    end = 0
    for start, length in layout:
        if start < end or length < 1:
            return False
        end = start + length
    return end <= size


def live_cells(layout):
    """Count the cells of the blocks."""
    return sum([length for start, length in layout])


def gaps(size, layout):
    """List the maximal rows of free cells, as blocks."""
    found = []
    end = 0
    # The end of the heap bounds the last gap as a block would.
    for start, length in layout + [(size, 0)]:
        if start > end:
            found.append((end, start - end))
        end = start + length
    return found


def fits(size, layout, start, length):
    """Tell whether a new block lies within the heap and in free cells."""
    if length < 1 or start < 0 or start + length > size:
        return False
    return all([start + length <= other or other + cells <= start for other, cells in layout])


def with_block(layout, start, length):
    """Return the layout with one more block, which fits."""
    return sorted(layout + [(start, length)])


def without(layout, index):
    """Return the layout without the block at an index."""
    return layout[:index] + layout[index + 1:]


def measure(size, layout):
    """Return live cells, free cells, the greatest gap, the number of gaps, and the fragmentation."""
    live = live_cells(layout)
    free = size - live
    found = gaps(size, layout)
    greatest = max([cells for start, cells in found], default=0)
    fragmentation = lowest_terms(free - greatest, free) if found else None
    return live, free, greatest, len(found), fragmentation


def lowest_terms(numerator, denominator):
    """Return the numerator and the denominator of a fraction in lowest terms."""
    common = gcd(numerator, denominator)
    return numerator // common, denominator // common


def format_layout(size, layout):
    """Return the text of a layout, one character for each cell."""
    text = ""
    for index, (start, length) in enumerate(layout):
        # A layout of more than 26 blocks has no text; its letters begin again, so that this raises nothing.
        letter = LETTERS[index % len(LETTERS)]
        text = text + FREE * (start - len(text)) + letter * length
    return text + FREE * (size - len(text))


def parse_layout(text):
    """Return the size and the layout that a text shows; raise TextError(place)."""
    layout = []
    for place, character in enumerate(text):
        if character == FREE:
            continue
        if _continues(layout, place, character):
            start, length = layout[-1]
            layout[-1] = (start, length + 1)
        elif _begins(layout, character):
            layout.append((place, 1))
        else:
            raise TextError(place)
    return len(text), layout


def _continues(layout, place, character):
    if not layout:
        return False
    start, length = layout[-1]
    return start + length == place and character == LETTERS[len(layout) - 1]


def _begins(layout, character):
    return len(layout) < len(LETTERS) and character == LETTERS[len(layout)]
