"""The policies, which place a new block in free cells and move nothing."""

from heapgame.layouts import gaps


def places(size, layout, length):
    """List all starts at which a block of this length (at least 1) fits."""
    return [place for start, cells in gaps(size, layout) for place in range(start, start + cells - length + 1)]


def first_place(found, cursor):
    """Return the least start from the cursor on, or else the least one of all, or None."""
    for start in found:
        if start >= cursor:
            return start
    return found[0] if found else None


def place_block(size, layout, length, policy, cursor=0):
    """Return the start that a policy ("first", "best", "worst" or "next") takes, or None."""
    if policy == "next":
        return first_place(places(size, layout, length), cursor)
    wide = [(start, cells) for start, cells in gaps(size, layout) if cells >= length]
    if not wide:
        return None
    return chosen_area(wide, policy)[0]


def chosen_area(areas, policy):
    """Return the area, a tuple (start, length), that "first", "best" or "worst" takes of a list of at least one."""
    # Of several areas of the same length, min and max take the first one.
    if policy == "best":
        return min(areas, key=lambda area: area[1])
    if policy == "worst":
        return max(areas, key=lambda area: area[1])
    return areas[0]
