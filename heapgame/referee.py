"""The rules of the game: replies that keep them, scripts, tables, plays, and matches that are watched."""

from heapgame.errors import BadReply, NotAllowed
from heapgame.games import RELEASE, after_reply, moves_of, replies, requestable
from heapgame.layouts import fits, without
from heapgame.relocations import cost, is_relocation, relocated


def is_reply(contract, layout, length, starts, start):
    """Tell whether new starts and a start for the new block are a reply to a request in a position."""
    if length not in requestable(contract, layout) or not is_relocation(contract.size, layout, starts):
        return False
    return cost(layout, starts) <= contract.budget and fits(contract.size, relocated(layout, starts), start, length)


def scripted(contract, layout, number):
    """Return the move of a position that an integer chooses, or None if there is no move."""
    moves = moves_of(contract, layout)
    return moves[number % len(moves)] if moves else None


def after_move(layout, move, answer):
    """Return the layout after a move, or None if it fails; answer(layout, length) returns a reply or None."""
    kind, number = move
    if kind == RELEASE:
        return without(layout, number)
    reply = answer(layout, number)
    return None if reply is None else after_reply(layout, number, reply)


def served(game, numbers):
    """Play a script against the manager's strategy; return the layouts, and whether a request failed."""
    layouts = [[]]
    for number in numbers:
        move = scripted(game.contract, layouts[-1], number)
        if move is None:
            break
        layout = after_move(layouts[-1], move, lambda position, length: game.manager_reply(position, length))
        if layout is None:
            return layouts, True
        layouts.append(layout)
    return layouts, False


class Table:
    """A manager whose replies are chosen by integers, for pairs of a position and a length."""

    def __init__(self, numbers, otherwise):
        self.numbers = {key: numbers[key] for key in numbers}
        self.otherwise = otherwise

    def reply(self, contract, layout, length):
        """Return the reply that the table chooses, or None if there is none, as to a request that is not allowed."""
        if length not in requestable(contract, layout):
            return None
        found = replies(contract, layout, length)
        number = self.numbers.get((tuple(layout), length), self.otherwise)
        return found[number % len(found)] if found else None


def defeated(game, table):
    """Count the moves of the program's strategy until a table fails; None if it cannot force a failure."""
    if game.rank([]) is None:
        return None
    layout = []
    moves = 0
    while layout is not None:
        # Each move leads to a smaller rank, whatever the table replies, so there is a next one and an end.
        move = game.program_move(layout)
        layout = after_move(layout, move, lambda position, length: table.reply(game.contract, position, length))
        moves += 1
    return moves


class Match:
    """A match of a program and a manager that both act through it; it refuses what the rules forbid."""

    def __init__(self, contract):
        self.contract = contract
        self.layout = []
        self.pending = None
        self.failed = False
        self.moves = 0

    def request(self, length):
        """Request a block, and tell whether there is a reply; raise BadReply or NotAllowed(length)."""
        self._check_turn()
        if length not in requestable(self.contract, self.layout):
            raise NotAllowed(length)
        self.moves += 1
        if replies(self.contract, self.layout, length):
            self.pending = length
        else:
            self.failed = True
        return not self.failed

    def reply(self, starts, start):
        """Reply to the pending request; raise BadReply."""
        length = self.pending
        if length is None or not is_reply(self.contract, self.layout, length, starts, start):
            raise BadReply()
        self.layout = after_reply(self.layout, length, (starts, start, cost(self.layout, starts)))
        self.pending = None

    def release(self, index):
        """Release the block at an index; raise BadReply."""
        self._check_turn()
        if not 0 <= index < len(self.layout):
            raise BadReply()
        self.layout = without(self.layout, index)
        self.moves += 1

    def _check_turn(self):
        if self.failed or self.pending is not None:
            raise BadReply()
