"""Certificates: lists of positions that show which side wins a contract, and how they are made and checked."""

from heapgame.games import RELEASE, Game, after_reply, is_position, moves_of, replies
from heapgame.layouts import without
from heapgame.referee import after_move

MANAGER = "manager"
PROGRAM = "program"


def certify(contract):
    """Return the certificate of a contract: ("manager", layouts) or ("program", pairs of a layout and a rank)."""
    game = Game(contract)
    if game.winner() == MANAGER:
        return MANAGER, _found_by(lambda layout: _outcomes_of_strategy(game, layout))
    found = _found_by(lambda layout: _outcomes(contract, layout, game.program_move(layout)))
    return PROGRAM, [(layout, game.rank(layout)) for layout in found]


def check(contract, certificate):
    """Return the side, "manager" or "program", that a certificate shows to win, or None."""
    side, listed = certificate
    if side == MANAGER and _shows_manager(contract, listed):
        return MANAGER
    if side == PROGRAM and _shows_program(contract, listed):
        return PROGRAM
    return None


def _found_by(following):
    # The layout without blocks and what follows from it, each once, in the order in which they are found.
    seen = set()
    seen.add(())
    found = [[]]
    scanned = 0
    while scanned < len(found):
        outcomes = following(found[scanned])
        for layout in outcomes:
            if tuple(layout) not in seen:
                seen.add(tuple(layout))
                found.append(layout)
        scanned += 1
    return found


def _outcomes_of_strategy(game, layout):
    # The manager wins here, so none of the moves fails.
    return [after_move(layout, move, lambda position, length: game.manager_reply(position, length))
            for move in moves_of(game.contract, layout)]


def _outcomes(contract, layout, move):
    kind, number = move
    if kind == RELEASE:
        return [without(layout, number)]
    return [after_reply(layout, number, reply) for reply in replies(contract, layout, number)]


def _shows_manager(contract, layouts):
    listed = {tuple(layout): True for layout in layouts}
    return () in listed and all([_is_served(contract, layout, listed) for layout in layouts])


def _is_served(contract, layout, listed):
    if not is_position(contract, layout):
        return False
    for move in moves_of(contract, layout):
        if not any([tuple(outcome) in listed for outcome in _outcomes(contract, layout, move)]):
            return False
    return True


def _shows_program(contract, entries):
    # Of a layout that is listed several times the least rank is the one that helps the other entries most.
    least = {}
    for layout, rank in entries:
        least[tuple(layout)] = min(rank, least.get(tuple(layout), rank))
    return () in least and all([_is_forced(contract, layout, rank, least) for layout, rank in entries])


def _is_forced(contract, layout, rank, least):
    if not is_position(contract, layout):
        return False
    for move in moves_of(contract, layout):
        if all([least.get(tuple(outcome), rank) < rank for outcome in _outcomes(contract, layout, move)]):
            return True
    return False
