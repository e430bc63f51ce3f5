"""Replies, scripts, tables, plays and matches: promises 36, 37 and 35, and 3 over them."""

import copy
import inspect
import itertools
import time
import unittest

import samples
from solved import Solved, behind, contracts_up_to, live

from heapgame import referee
from heapgame.errors import BadReply, HeapgameError, NotAllowed
from heapgame.games import Game
from heapgame.layouts import Contract
from heapgame.referee import Match, Table, defeated, is_reply, scripted, served

INTERFACE = {
    "is_reply": ["contract", "layout", "length", "starts", "start"],
    "scripted": ["contract", "layout", "number"],
    "served": ["game", "numbers"],
    "Table": ["numbers", "otherwise"],
    "defeated": ["game", "table"],
    "Match": ["contract"],
}
METHODS = {
    Table: {"reply": ["contract", "layout", "length"]},
    Match: {"request": ["length"], "reply": ["starts", "start"], "release": ["index"]},
}
HUGE = 10 ** 30
# The program wins these contracts, the manager the next ones.
LOST = ((3, 3, [1, 2], 0), (4, 4, [1, 2], 0), (4, 4, [1, 3], 0), (6, 6, [2, 3], 1))
WON = ((3, 3, [1], 0), (4, 4, [1, 2], 1), (4, 3, [1, 2], 0), (5, 4, [1, 3], 2))


def in_order(position, told):
    """The moves of a position, told by promise 31."""
    size, limit, lengths, _ = told
    releases = [("release", index) for index in range(len(position))]
    return releases + [("request", length) for length in lengths if live(position) + length <= limit]


def tables_of(solved):
    """Some tables for a game: of one integer, and of an integer for each request that mixes its parts."""
    requests = [(position, length) for position in solved.positions for length in solved.lengths]
    for number in (0, 1, 2, -1, -7, HUGE, -HUGE - 1):
        yield {}, number
    for turn in range(1, 12):
        yield {request: (turn * place) ** 2 - turn for place, request in enumerate(requests)}, 0
        yield {request: turn * place - 40 for place, request in enumerate(requests) if place % 2}, turn


def moves_against(solved, numbers, otherwise):
    """The moves of the program's strategy until a table fails, played with tuples of blocks."""
    position = ()
    for count in itertools.count(1):
        kind, number = solved.program_move(position)
        if kind == "release":
            position = position[:number] + position[number + 1:]
            continue
        replies = solved.replies(position, number)
        if not replies:
            return count
        position = behind(position, number, replies[numbers.get((position, number), otherwise) % len(replies)])


def play_by_hand(solved, told, numbers):
    """What a script makes of the manager's strategy, played with tuples of blocks."""
    positions = [()]
    for number in numbers:
        moves = in_order(positions[-1], told)
        if not moves:
            return positions, False
        kind, which = moves[number % len(moves)]
        if kind == "release":
            positions.append(positions[-1][:which] + positions[-1][which + 1:])
            continue
        reply = solved.manager_reply(positions[-1], which)
        if reply is None:
            return positions, True
        positions.append(behind(positions[-1], which, reply))
    return positions, False


class InterfaceTest(unittest.TestCase):
    def test_names_and_arguments(self):
        for name, arguments in INTERFACE.items():
            found = getattr(referee, name)
            self.assertEqual(list(inspect.signature(found).parameters), arguments, name)
            self.assertEqual(found.__module__, "heapgame.referee")
        for kind, methods in METHODS.items():
            for name, arguments in methods.items():
                self.assertEqual(list(inspect.signature(vars(kind)[name]).parameters)[1:], arguments, name)

    def test_fields_are_set_at_once(self):
        contract = Contract(3, 3, [1, 2], 0)
        match = Match(contract)
        self.assertIs(match.contract, contract)
        self.assertEqual((match.layout, match.pending, match.moves), ([], None, 0))
        self.assertIs(match.failed, False)


class IsReplyTest(unittest.TestCase):
    """Promise 36: which replies the rules allow."""

    def test_replies_of_all_positions_of_few_cells(self):
        for told in contracts_up_to(3) + [(4, 4, [1, 2], 1), (4, 4, [1, 2], 2), (4, 3, [1, 3], 2)]:
            solved = Solved(*told)
            for position in solved.positions:
                self.check_position(told, solved, position)

    def check_position(self, told, solved, position):
        size, limit, lengths, _ = told
        for length in (length for length in lengths if live(position) + length <= limit):
            good = {(starts, start) for starts, start, _ in solved.replies(position, length)}
            for starts in itertools.product(range(-1, size + 1), repeat=len(position)):
                for start in range(-1, size + 1):
                    told_so = is_reply(Contract(*told), list(position), length, list(starts), start)
                    self.assertIs(told_so, (starts, start) in good, (told, position, length, starts, start))

    def test_what_forbids_a_reply(self):
        contract = Contract(6, 6, [1, 2], 2)
        layout = [(1, 1), (3, 2)]
        self.assertIs(is_reply(contract, layout, 1, [1, 3], 0), True)
        self.assertIs(is_reply(contract, layout, 1, [1, 3], 3), False)      # another block
        self.assertIs(is_reply(contract, layout, 1, [1, 3], 6), False)      # the end of the heap
        self.assertIs(is_reply(contract, layout, 2, [1, 3], 5), False)
        self.assertIs(is_reply(contract, layout, 1, [1, 3], -1), False)
        self.assertIs(is_reply(contract, layout, 1, [2, 4], 0), False)      # the budget
        self.assertIs(is_reply(contract, layout, 1, [1, 4], 3), True)
        self.assertIs(is_reply(contract, layout, 1, [1, 5], 3), False)      # the heap
        self.assertIs(is_reply(contract, layout, 1, [-1, 3], 0), False)
        self.assertIs(is_reply(contract, layout, 1, [4, 3], 0), False)      # both blocks on one cell

    def test_too_few_and_too_many_starts(self):
        contract = Contract(6, 6, [1, 2], 2)
        for starts in ([], [1], [1, 3, 5]):
            self.assertIs(is_reply(contract, [(1, 1), (3, 2)], 1, starts, 0), False)
        self.assertIs(is_reply(contract, [], 1, [0], 1), False)
        self.assertIs(is_reply(contract, [], 1, [], 1), True)

    def test_the_new_block_lies_where_a_moved_block_was(self):
        contract = Contract(3, 3, [1, 2], 1)
        self.assertIs(is_reply(contract, [(1, 1)], 2, [2], 0), True)
        self.assertIs(is_reply(contract, [(1, 1)], 2, [0], 1), True)
        self.assertIs(is_reply(contract, [(1, 1)], 2, [0], 0), False)

    def test_a_request_that_is_not_allowed_has_no_reply(self):
        contract = Contract(6, 3, [1, 2], 0)
        for layout, length in (([], 3), ([], 0), ([], -1), ([(0, 2)], 2), ([(0, 2), (3, 1)], 1)):
            self.assertIs(is_reply(contract, layout, length, [start for start, _ in layout], 4), False)


class ScriptedTest(unittest.TestCase):
    """Promise 37: the moves that integers choose."""

    def test_integers_of_any_size(self):
        contract = Contract(8, 6, [1, 2], 0)
        layout = [(0, 1), (3, 2)]
        moves = [("release", 0), ("release", 1), ("request", 1), ("request", 2)]
        for number in range(-9, 10):
            self.assertEqual(scripted(contract, layout, number), moves[number % 4])
        self.assertEqual(scripted(contract, layout, 4 * HUGE + 1), ("release", 1))
        self.assertEqual(scripted(contract, layout, -4 * HUGE - 1), ("request", 2))

    def test_only_requests_that_are_allowed(self):
        contract = Contract(8, 3, [1, 2], 0)
        self.assertEqual([scripted(contract, [(0, 2)], number) for number in range(3)],
                         [("release", 0), ("request", 1), ("release", 0)])
        self.assertEqual([scripted(contract, [(0, 2), (5, 1)], number) for number in range(3)],
                         [("release", 0), ("release", 1), ("release", 0)])
        self.assertEqual(scripted(Contract(8, 3, [1], 0), [], -5), ("request", 1))

    def test_a_position_without_moves(self):
        for number in (0, 3, -1, HUGE):
            self.assertIsNone(scripted(Contract(4, 0, [1, 2], 1), [], number))
            self.assertIsNone(scripted(Contract(4, 2, [3], 1), [], number))

    def test_all_positions_of_few_cells(self):
        for told in contracts_up_to(3):
            for position in Solved(*told).positions:
                moves = in_order(position, told)
                for number in range(-3, 8):
                    self.assertEqual(scripted(Contract(*told), list(position), number),
                                     moves[number % len(moves)] if moves else None)


class ServedTest(unittest.TestCase):
    """Promises 37 and 35: scripts against the manager's strategy."""

    def test_an_empty_script(self):
        self.assertEqual(served(Game(Contract(3, 3, [1, 2], 0)), []), ([[]], False))

    def test_a_script_in_full(self):
        game = Game(Contract(3, 3, [1, 2], 0))
        self.assertEqual(served(game, [0, 1, 0]), ([[], [(0, 1)], [(0, 1), (2, 1)], [(2, 1)]], False))
        self.assertEqual(served(game, [-1, 0, -2]), ([[], [(0, 2)], [], [(0, 1)]], False))

    def test_a_script_that_ends_with_a_failed_request(self):
        game = Game(Contract(3, 3, [1, 2], 0))
        layouts = [[], [(0, 1)], [(0, 1), (2, 1)], [(0, 1), (1, 1), (2, 1)], [(1, 1), (2, 1)], [(1, 1)]]
        self.assertEqual(served(game, [0, 1, 2, 0, 1]), (layouts, False))
        self.assertEqual(served(game, [0, 1, 2, 0, 1, 2]), (layouts, True))
        self.assertEqual(served(game, [0, 1, 2, 0, 1, 2, 0, 0]), (layouts, True))

    def test_a_script_that_fails_at_once(self):
        self.assertEqual(served(Game(Contract(2, 3, [3], 2)), [5, 0]), ([[]], True))

    def test_a_script_at_a_position_without_moves(self):
        self.assertEqual(served(Game(Contract(3, 0, [1], 0)), [0, 1, 2]), ([[]], False))
        self.assertEqual(served(Game(Contract(3, 2, [3], 0)), [HUGE]), ([[]], False))

    def test_all_scripts_of_few_moves(self):
        for told in contracts_up_to(3)[::2] + [(4, 4, [1, 2], 0), (4, 4, [1, 2], 1), (4, 4, [1, 2, 3], 0)]:
            solved = Solved(*told)
            game = Game(Contract(*told))
            for numbers in itertools.product(range(4), repeat=4):
                self.check_script(game, solved, told, list(numbers))

    def test_long_scripts_with_integers_of_all_sizes(self):
        for told in LOST + WON:
            solved = Solved(*told)
            game = Game(Contract(*told))
            for turn in range(1, 30):
                numbers = [(turn * place * place + 7 * place) * (-1) ** place * 10 ** (place % 20)
                           for place in range(25)]
                self.check_script(game, solved, told, numbers)

    def check_script(self, game, solved, told, numbers):
        positions, failed = play_by_hand(solved, told, numbers)
        layouts, failed_too = served(game, numbers)
        self.assertEqual(layouts, [list(position) for position in positions], (told, numbers))
        self.assertIs(failed_too, failed, (told, numbers))
        if game.winner() == "manager":
            self.assertIs(failed, False)


class TableTest(unittest.TestCase):
    """Promise 37: tables."""

    def test_with_and_without_an_entry(self):
        contract = Contract(3, 3, [1, 2], 0)
        table = Table({((), 1): 1, (((0, 1),), 1): 0, ((), 2): HUGE + 1}, 2)
        self.assertEqual(table.reply(contract, [], 1), ([], 1, 0))
        self.assertEqual(table.reply(contract, [(0, 1)], 1), ([0], 1, 0))
        self.assertEqual(table.reply(contract, [], 2), ([], 1, 0))
        self.assertEqual(table.reply(contract, [(1, 1)], 1), ([1], 0, 0))
        self.assertEqual(table.reply(contract, [(0, 1)], 2), ([0], 1, 0))
        self.assertEqual(Table({}, 2).reply(contract, [], 1), ([], 2, 0))

    def test_integers_below_0(self):
        contract = Contract(3, 3, [1, 2], 0)
        table = Table({((), 1): -1, ((), 2): -HUGE - 1}, -2)
        self.assertEqual(table.reply(contract, [], 1), ([], 2, 0))
        self.assertEqual(table.reply(contract, [], 2), ([], 1, 0))
        self.assertEqual(table.reply(contract, [(1, 1)], 1), ([1], 0, 0))

    def test_a_request_to_which_there_is_no_reply(self):
        contract = Contract(3, 3, [1, 2], 0)
        for numbers, otherwise in (({}, 0), ({}, -3), ({(((1, 1),), 2): 5}, 0)):
            self.assertIsNone(Table(numbers, otherwise).reply(contract, [(1, 1)], 2))

    def test_a_request_that_is_not_allowed(self):
        table = Table({}, 0)
        for layout, length in (([], 3), ([], 0), ([(0, 2)], 2), ([(0, 2), (2, 1)], 1)):
            self.assertIsNone(table.reply(Contract(4, 3, [1, 2], 1), layout, length))

    def test_all_requests_of_few_cells(self):
        for told in contracts_up_to(3)[::3] + [(4, 4, [1, 2], 2)]:
            solved = Solved(*told)
            for numbers, otherwise in tables_of(solved):
                table = Table(numbers, otherwise)
                for position in solved.positions:
                    for length in (number for kind, number in in_order(position, told) if kind == "request"):
                        replies = [(list(starts), start, price)
                                   for starts, start, price in solved.replies(position, length)]
                        number = numbers.get((position, length), otherwise)
                        self.assertEqual(table.reply(Contract(*told), list(position), length),
                                         replies[number % len(replies)] if replies else None)

    def test_a_dict_that_is_passed_in_is_neither_changed_nor_watched(self):
        contract = Contract(3, 3, [1], 0)
        numbers = {((), 1): 1}
        table = Table(numbers, 0)
        table.reply(contract, [], 1)
        table.reply(contract, [(0, 1)], 1)
        self.assertEqual(numbers, {((), 1): 1})
        numbers[((), 1)] = 2
        self.assertEqual(table.reply(contract, [], 1), ([], 1, 0))


class DefeatedTest(unittest.TestCase):
    """Promise 35: the program's strategy against tables."""

    def test_no_rank(self):
        for told in WON + ((3, 0, [1], 0),):
            self.assertIsNone(defeated(Game(Contract(*told)), Table({}, 0)))

    def test_a_request_that_fails_at_once(self):
        self.assertEqual(defeated(Game(Contract(2, 3, [3], 2)), Table({}, 4)), 1)

    def test_a_table_in_full(self):
        game = Game(Contract(3, 3, [1, 2], 0))
        self.assertEqual(defeated(game, Table({}, 1)), 2)
        # One block, then another one, and the first one of them, or a third one and two of three.
        self.assertEqual(defeated(game, Table({(((0, 1),), 1): 0}, 0)), 4)
        self.assertEqual(defeated(game, Table({(((0, 1),), 1): 1}, 0)), 6)

    def test_every_table_fails_within_the_rank(self):
        for told in LOST:
            solved = Solved(*told)
            game = Game(Contract(*told))
            for numbers, otherwise in tables_of(solved):
                moves = defeated(game, Table(numbers, otherwise))
                self.assertEqual(moves, moves_against(solved, numbers, otherwise), (told, numbers, otherwise))
                self.assertLessEqual(moves, solved.ranks[()])

    def test_all_contracts_of_few_cells(self):
        for told in contracts_up_to(3):
            solved = Solved(*told)
            for otherwise in range(3):
                expected = moves_against(solved, {}, otherwise) if () in solved.ranks else None
                self.assertEqual(defeated(Game(Contract(*told)), Table({}, otherwise)), expected, (told, otherwise))

    def test_the_managers_strategy_as_a_table_takes_exactly_the_rank(self):
        for told in LOST:
            solved = Solved(*told)
            numbers = {}
            for position in solved.positions:
                for kind, length in in_order(position, told):
                    if kind == "request" and solved.replies(position, length):
                        reply = solved.manager_reply(position, length)
                        numbers[(position, length)] = solved.replies(position, length).index(reply)
            self.assertEqual(defeated(Game(Contract(*told)), Table(numbers, 0)), solved.ranks[()])


class Model:
    """A match, told by promise 36, with tuples of blocks; an act returns what the match has to tell or raise."""

    def __init__(self, told):
        self.told = told
        self.solved = Solved(*told)
        self.position, self.pending, self.failed, self.moves = (), None, False, 0

    def act(self, act):
        kind, *told = act
        if kind == "request":
            return self.request(*told)
        if kind == "reply":
            return self.reply(*told)
        return self.release(*told)

    def request(self, length):
        if self.failed or self.pending is not None:
            return BadReply
        if ("request", length) not in in_order(self.position, self.told):
            return NotAllowed
        self.moves += 1
        self.failed = not self.solved.replies(self.position, length)
        self.pending = None if self.failed else length
        return not self.failed

    def reply(self, starts, start):
        if self.pending is None:
            return BadReply
        for reply in self.solved.replies(self.position, self.pending):
            if reply[:2] == (tuple(starts), start):
                self.position, self.pending = behind(self.position, self.pending, reply), None
                return None
        return BadReply

    def release(self, index):
        if self.failed or self.pending is not None or index not in range(len(self.position)):
            return BadReply
        self.moves += 1
        self.position = self.position[:index] + self.position[index + 1:]
        return None


def state_of(match):
    return match.layout, match.pending, match.failed, match.moves


def perform(match, act):
    kind, *told = act
    return getattr(match, kind)(*copy.deepcopy(told))


class MatchTest(unittest.TestCase):
    """Promise 36."""

    def assert_refused(self, match, act, kinds=BadReply):
        before = copy.deepcopy(state_of(match))
        with self.assertRaises(kinds) as caught:
            perform(match, act)
        self.assertIsInstance(caught.exception, HeapgameError)
        self.assertEqual(state_of(match), before, act)
        return caught.exception

    def test_a_match_in_full(self):
        match = Match(Contract(3, 3, [1, 2], 0))
        self.assertIs(match.request(1), True)
        self.assertEqual(state_of(match), ([], 1, False, 1))
        self.assertIsNone(match.reply([], 1))
        self.assertEqual(state_of(match), ([(1, 1)], None, False, 1))
        self.assertIs(match.request(1), True)
        self.assertIsNone(match.reply([1], 0))
        self.assertEqual(state_of(match), ([(0, 1), (1, 1)], None, False, 2))
        self.assertIsNone(match.release(0))
        self.assertEqual(state_of(match), ([(1, 1)], None, False, 3))
        self.assertIs(match.request(2), False)
        self.assertEqual(state_of(match), ([(1, 1)], None, True, 4))

    def test_a_reply_that_moves_blocks(self):
        match = Match(Contract(4, 4, [1, 2], 1))
        match.request(1)
        match.reply([], 2)
        match.request(2)
        match.reply([3], 1)
        self.assertEqual(state_of(match), ([(1, 2), (3, 1)], None, False, 2))

    def test_a_length_that_is_not_allowed(self):
        match = Match(Contract(4, 3, [1, 3], 0))
        for length in (2, 4, 0, -1):
            self.assertEqual(self.assert_refused(match, ("request", length), NotAllowed).length, length)
        match.request(3)
        match.reply([], 0)
        for length in (1, 3):
            self.assertEqual(self.assert_refused(match, ("request", length), NotAllowed).length, length)

    def test_a_length_that_is_allowed_but_fits_nowhere_is_a_move(self):
        match = Match(Contract(2, 3, [3], 0))
        self.assertIs(match.request(3), False)
        self.assertEqual(state_of(match), ([], None, True, 1))

    def test_what_is_refused_while_a_request_is_pending(self):
        match = Match(Contract(4, 4, [1, 2], 1))
        match.request(2)
        match.reply([], 1)
        match.request(1)
        self.assert_refused(match, ("request", 1))
        self.assert_refused(match, ("request", 5), (BadReply, NotAllowed))
        self.assert_refused(match, ("release", 0))
        self.assert_refused(match, ("release", 3))
        self.assertEqual(match.pending, 1)

    def test_what_is_refused_behind_a_failure(self):
        match = Match(Contract(3, 3, [1, 2], 0))
        match.request(1)
        match.reply([], 1)
        match.request(2)
        self.assertIs(match.failed, True)
        self.assert_refused(match, ("request", 1))
        self.assert_refused(match, ("request", 3), (BadReply, NotAllowed))
        self.assert_refused(match, ("release", 0))
        self.assert_refused(match, ("release", 1))
        self.assert_refused(match, ("reply", [1], 0))
        self.assert_refused(match, ("reply", [1], 2))

    def test_a_reply_without_a_request(self):
        match = Match(Contract(3, 3, [1, 2], 1))
        self.assert_refused(match, ("reply", [], 0))
        match.request(1)
        match.reply([], 1)
        self.assert_refused(match, ("reply", [], 1))
        self.assert_refused(match, ("reply", [1], 0))

    def test_a_reply_that_is_forbidden(self):
        match = Match(Contract(6, 6, [1, 2], 1))
        for length, starts, start in ((2, [], 1), (1, [1], 4)):
            match.request(length)
            match.reply(starts, start)
        match.request(1)
        for starts, start in (([0, 4], 3),                          # the budget
                              ([1, 6], 0), ([1, -1], 0), ([1, 4], 6), ([1, 4], -1),     # the heap
                              ([1, 4], 2), ([1, 2], 0), ([1, 4], 4), ([1, 5], 5),       # another block
                              ([], 0), ([1], 0), ([1, 4, 0], 0)):   # too few and too many starts
            self.assert_refused(match, ("reply", starts, start))
        self.assertIsNone(match.reply([1, 0], 5))
        self.assertEqual(state_of(match), ([(0, 1), (1, 2), (5, 1)], None, False, 3))

    def test_a_release_of_a_block_that_is_not_there(self):
        match = Match(Contract(4, 4, [1, 2], 0))
        for index in (0, -1, 1):
            self.assert_refused(match, ("release", index))
        match.request(1)
        match.reply([], 2)
        for index in (1, -1, 2, HUGE):
            self.assert_refused(match, ("release", index))
        match.release(0)
        self.assertEqual(state_of(match), ([], None, False, 2))

    def test_all_short_matches(self):
        for told, depth in (((3, 3, [1, 2], 0), 5), ((2, 2, [1], 1), 6), ((3, 2, [1, 2], 2), 5), ((2, 3, [1, 3], 0), 6)):
            self.follow(Match(Contract(*told)), Model(told), self.acts(told), depth)

    def acts(self, told):
        size, _, lengths, _ = told
        acts = [("request", length) for length in lengths + [max(lengths) + 1]]
        acts += [("release", index) for index in (-1, 0, 1)]
        for count in range(3):
            for starts in itertools.product(range(size), repeat=count):
                acts += [("reply", list(starts), start) for start in range(size)]
        return acts

    def follow(self, match, model, acts, depth):
        """Perform each act on both; go on behind those that were not refused."""
        if depth == 0:
            return
        for act in acts:
            other, other_model = copy.copy(match), copy.copy(model)
            expected = other_model.act(act)
            if isinstance(expected, type):
                self.assert_refused(other, act, expected)
                continue
            self.assertIs(perform(other, act), expected, act)
            self.assertEqual(state_of(other), (list(other_model.position), other_model.pending,
                                               other_model.failed, other_model.moves), act)
            self.follow(other, other_model, acts, depth - 1)

    def test_the_strategies_of_both_sides_in_a_match(self):
        for told in LOST:
            game = Game(Contract(*told))
            match = Match(game.contract)
            while not match.failed:
                kind, number = game.program_move(match.layout)
                if kind == "release":
                    match.release(number)
                elif match.request(number):
                    starts, start, _ = game.manager_reply(match.layout, number)
                    match.reply(starts, start)
            self.assertEqual(match.moves, game.rank([]))


class ListsTest(unittest.TestCase):
    """Promise 3."""

    def test_lists_that_are_passed_in_stay(self):
        contract = Contract(5, 4, [1, 2], 1)
        layout, starts, numbers = [(0, 1), (2, 2)], [1, 2], [0, 2, -1, 5]
        is_reply(contract, layout, 1, starts, 4)
        scripted(contract, layout, 3)
        Table({}, 1).reply(contract, layout, 1)
        game = Game(contract)
        served(game, numbers)
        defeated(game, Table({}, 0))
        match = Match(contract)
        match.request(1)
        match.reply([], 0)
        match.request(1)
        own = [2]
        match.reply(own, 4)
        self.assertEqual((layout, starts, numbers, own), ([(0, 1), (2, 2)], [1, 2], [0, 2, -1, 5], [2]))
        self.assertEqual(contract.lengths, [1, 2])

    def test_each_list_that_is_returned_is_a_new_one(self):
        game = Game(Contract(4, 4, [1, 2], 1))
        layouts, _ = served(game, [0, 1, 1, 0])
        again = copy.deepcopy(layouts)
        for layout in layouts:
            layout.append("changed")
        layouts.append("changed")
        self.assertEqual(served(game, [0, 1, 1, 0]), (again, False))
        table = Table({}, 0)
        reply = table.reply(game.contract, [(1, 1)], 1)
        reply[0].append("changed")
        self.assertEqual(table.reply(game.contract, [(1, 1)], 1), ([1], 0, 0))

    def test_starts_of_a_reply_can_be_changed_afterwards(self):
        match = Match(Contract(4, 4, [1, 2], 1))
        match.request(1)
        match.reply([], 0)
        match.request(1)
        starts = [0]
        match.reply(starts, 1)
        starts[0] = 3
        self.assertEqual(match.layout, [(0, 1), (1, 1)])


class TimeTest(unittest.TestCase):
    def test_contracts_of_five_cells_take_seconds(self):
        for lengths in ([1], [1, 2], [2, 3], [1, 2, 3]):
            for limit in (4, 5):
                game = Game(Contract(5, limit, lengths, 2))
                before = time.process_time()
                served(game, [place * place - 50 for place in range(300)])
                defeated(game, Table({}, 1))
                match = Match(game.contract)
                match.request(lengths[0])
                match.reply([], 1)
                self.assertLess(time.process_time() - before, 5)


if __name__ == "__main__":
    unittest.main()
