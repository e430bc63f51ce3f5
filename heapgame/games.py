"""The game between the manager and the program: positions, moves, replies, ranks and strategies."""

from heapgame.errors import NotAllowed
from heapgame.layouts import Contract, is_layout, live_cells, with_block, without
from heapgame.placement import places
from heapgame.relocations import cost, is_relocation, relocated

RELEASE = "release"
REQUEST = "request"


def is_position(contract, layout):
    """Tell whether a list of blocks is a position."""
    if any([length not in contract.lengths for _, length in layout]):
        return False
    return is_layout(contract.size, layout) and live_cells(layout) <= contract.limit


def positions(contract):
    """List all positions, in their order."""
    return _positions_from(contract, 0, contract.limit)


def requestable(contract, layout):
    """List the lengths that may be requested, ascending."""
    left = contract.limit - live_cells(layout)
    return [length for length in contract.lengths if length <= left]


def moves_of(contract, layout):
    """List the moves of a position, in their order."""
    releases = [(RELEASE, index) for index in range(len(layout))]
    return releases + [(REQUEST, length) for length in requestable(contract, layout)]


def starts_within(size, budget, layout):
    """List the new starts within the heap that change blocks of at most so many cells, in the order of lists."""
    if not layout:
        return [[]]
    start, length = layout[0]
    found = []
    for goal in range(size - length + 1):
        left = budget if goal == start else budget - length
        if left >= 0:
            for starts in starts_within(size, left, layout[1:]):
                found.append([goal] + starts)
    return found


def relocations(contract, layout):
    """List the relocations within the budget, in the order of lists."""
    found = starts_within(contract.size, contract.budget, layout)
    return [starts for starts in found if is_relocation(contract.size, layout, starts)]


def replies(contract, layout, length):
    """List the replies (starts, start, cost) to a request, in their order; raise NotAllowed(length)."""
    if length not in requestable(contract, layout):
        raise NotAllowed(length)
    found = []
    for starts in relocations(contract, layout):
        for start in places(contract.size, relocated(layout, starts), length):
            found.append((cost(layout, starts), starts, start))
    return [(list(starts), start, price) for price, starts, start in sorted(found)]


def after_reply(layout, length, reply):
    """Return the layout after a reply to a request."""
    starts, start, _ = reply
    return with_block(relocated(layout, starts), start, length)


class Game:
    """The game of a contract, solved: the ranks of all positions and the strategies of both sides."""

    def __init__(self, contract):
        self.contract = contract
        self._ranks = _ranks_of(contract)

    def rank(self, layout):
        """Return the least number of moves in which the program can force a failure, or None."""
        return self._ranks.get(tuple(layout))

    def winner(self):
        """Return "manager" or "program"."""
        return "manager" if self.rank([]) is None else "program"

    def manager_reply(self, layout, length):
        """Return the reply of the manager's strategy, or None if the request fails; raise NotAllowed(length)."""
        best = None
        greatest = 0
        for reply in replies(self.contract, layout, length):
            rank = self.rank(after_reply(layout, length, reply))
            if rank is None:
                return reply
            if rank > greatest:
                best = reply
                greatest = rank
        return best

    def program_move(self, layout):
        """Return the move of the program's strategy, or None without a rank."""
        rank = self.rank(layout)
        if rank is None:
            return None
        for move, outcomes in _outcomes_of_moves(self.contract, layout):
            ranks = [self._ranks.get(outcome) for outcome in outcomes]
            if all([other is not None and other < rank for other in ranks]):
                return move
        return None


def required_size(limit, lengths, budget, most):
    """Return the least size, at most the greatest one told, with which the manager wins, or None."""
    for size in range(1, most + 1):
        if Game(Contract(size, limit, lengths, budget)).winner() == "manager":
            return size
    return None


def _positions_from(contract, first, limit):
    # The positions whose blocks begin at this cell or behind it and have at most so many cells.
    found = [[]]
    for start in range(first, contract.size):
        for length in contract.lengths:
            if start + length <= contract.size and length <= limit:
                for rest in _positions_from(contract, start + length, limit - length):
                    found.append([(start, length)] + rest)
    return found


def _outcomes_of_moves(contract, layout):
    # Each move with the positions, as tuples of their blocks, that it or the replies to it can lead to.
    found = [((RELEASE, index), [tuple(without(layout, index))]) for index in range(len(layout))]
    # Different relocations often lead to the same layout.
    moved = {tuple(relocated(layout, starts)): True for starts in relocations(contract, layout)}
    for length in requestable(contract, layout):
        outcomes = {}
        for other in moved:
            for start in places(contract.size, list(other), length):
                outcomes[tuple(with_block(list(other), start, length))] = True
        found.append(((REQUEST, length), list(outcomes)))
    return found


def _ranks_of(contract):
    ranks = {}
    waiting = [(tuple(layout), [outcomes for _, outcomes in _outcomes_of_moves(contract, layout)])
               for layout in positions(contract)]
    rank = 1
    lost = _lost_in_one_move(waiting, ranks)
    while lost:
        # Only when the round is over are its positions entered: a rank follows from smaller ranks alone.
        for position in lost:
            ranks[position] = rank
        waiting = [(position, choices) for position, choices in waiting if position not in ranks]
        rank += 1
        lost = _lost_in_one_move(waiting, ranks)
    return ranks


def _lost_in_one_move(waiting, ranks):
    return [position for position, choices in waiting if _is_forced(choices, ranks)]


def _is_forced(choices, ranks):
    for outcomes in choices:
        if all(outcome in ranks for outcome in outcomes):
            return True
    return False
