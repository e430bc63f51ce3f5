"""Address maps: lists of pieces (source, target, length), and the words that they move."""

from heapgame.errors import MapLeaves


def pairs_of(pieces):
    """List the tuples (source, target) of the single addresses, piece by piece."""
    return [(source + step, target + step) for source, target, length in pieces for step in range(length)]


def canonical(pairs):
    """Return the canonical pieces of pairs with different sources and different targets."""
    pieces = []
    for source, target in sorted(pairs):
        if pieces and _continues(pieces[-1], source, target):
            first, image, length = pieces[-1]
            pieces[-1] = (first, image, length + 1)
        else:
            pieces.append((source, target, 1))
    return pieces


def is_map(pieces):
    """Tell whether pieces are a canonical map."""
    if any([length < 1 for source, target, length in pieces]):
        return False
    sources = [(source, length) for source, target, length in pieces]
    targets = sorted([(target, length) for source, target, length in pieces])
    if not _ascend(sources) or not _ascend(targets):
        return False
    return not any([_continues(before, piece[0], piece[1]) for before, piece in zip(pieces, pieces[1:])])


def map_address(pieces, address):
    """Return the address to which an address is mapped, or None."""
    for source, target, length in pieces:
        if source <= address < source + length:
            return target + address - source
    return None


def compose_maps(first, second):
    """Return the canonical map that maps by the first map and then by the second one."""
    images = [(source, map_address(second, target)) for source, target in pairs_of(first)]
    return canonical([(source, image) for source, image in images if image is not None])


def invert_map(pieces):
    """Return the canonical map that maps the images back."""
    return canonical([(target, source) for source, target in pairs_of(pieces)])


def relocate_words(pieces, words):
    """Return the words moved by a map, all at once; raise MapLeaves(address)."""
    pairs = pairs_of(pieces)
    for pair in pairs:
        for address in pair:
            if not 0 <= address < len(words):
                raise MapLeaves(address)
    moved = list(words)
    for source, _ in pairs:
        moved[source] = None
    # Behind the loop above, so that a source that is a target too gets its word.
    for source, target in pairs:
        moved[target] = words[source]
    return moved


def relocation_map(size, layout, starts):
    """Return the canonical map of a relocation."""
    return canonical(pairs_of([(start, goal, length) for (start, length), goal in zip(layout, starts)]))


def _continues(piece, source, target):
    first, image, length = piece
    return first + length == source and image + length == target


def _ascend(rows):
    return all([start + length <= other for (start, length), (other, _) in zip(rows, rows[1:])])
