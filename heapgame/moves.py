"""Relocations in practice: orders of single moves, sliding left, and the cheapest room for a new block."""

from heapgame.placement import places
from heapgame.relocations import placed, relocated


def meets(block, other):
    """Tell whether two blocks have a cell in common."""
    return max(block[0], other[0]) < min(block[0] + block[1], other[0] + other[1])


def schedule_moves(size, layout, starts):
    """Return the first safe order of the moved blocks, as a list of their indices, or None."""
    goals = placed(layout, starts)
    blocks = list(layout)
    waiting = [index for index, goal in enumerate(goals) if goal != blocks[index]]
    order = []
    while waiting:
        # A move only gives cells free that others wait for, so taking the first possible one spoils none of them.
        possible = [index for index in waiting if _can_move(blocks, index, goals[index])]
        if not possible:
            return None
        index = possible[0]
        blocks[index] = goals[index]
        waiting.remove(index)
        order.append(index)
    return order


def slide_left(size, layout):
    """Return the layout with all blocks one behind the other from the cell 0 on."""
    slid = []
    end = 0
    for _, length in layout:
        slid.append((end, length))
        end += length
    return slid


def first_slide(layout):
    """Return the index of the first block before which a cell is free, and the end of the block before it, or None."""
    end = 0
    for index, (start, length) in enumerate(layout):
        if start > end:
            return index, end
        end = start + length
    return None


def cheapest_room(size, layout, pinned, length):
    """Return (starts, start, cost) of the cheapest room for a new block of this length, or None."""
    behind = _room_behind_all(size, length)
    for index in reversed(range(len(layout))):
        behind = _room_from(size, layout[index], index in pinned, length, behind)
    if (0, False) not in behind:
        return None
    price, starts = behind[(0, False)]
    found = places(size, relocated(layout, starts), length)
    # Only a block without cells has room in a heap without a gap.
    return starts, found[0] if found else size, price


def _can_move(blocks, index, goal):
    others = blocks[:index] + blocks[index + 1:]
    return not any([meets(goal, other) for other in others])


def _room_behind_all(size, length):
    # The keys of this table and the next ones: where the blocks before end, and whether these leave the room
    # already. The values: the least cost of the blocks that follow and, with it, the first list of their starts.
    found = {}
    for end in range(size + 1):
        found[(end, True)] = (0, [])
        if size - end >= length:
            found[(end, False)] = (0, [])
    return found


def _room_from(size, block, is_pinned, length, behind):
    found = {}
    for end in range(size + 1):
        for room in (False, True):
            choices = _choices(block, is_pinned, length, end, room, behind)
            if choices:
                found[(end, room)] = min(choices)
    return found


def _choices(block, is_pinned, length, end, room, behind):
    start, cells = block
    # A block that is moved costs the same wherever it goes. At the end of the block before it, it is first in the
    # order of lists, and the room that might lie before it lies behind it.
    goals = [start] if is_pinned else [start, end]
    found = []
    for goal in goals:
        key = (goal + cells, room or goal - end >= length)
        if goal >= end and key in behind:
            price, starts = behind[key]
            found.append((price + (0 if goal == start else cells), [goal] + starts))
    return found
