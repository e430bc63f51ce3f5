"""The game: promises 31 to 35 and the first sentence of 42, and 3 over them."""

import copy
import inspect
import itertools
import time
import unittest

import samples
from solved import LENGTHS, Solved, behind, contracts_up_to, live, positions_by_trying, replies_by_trying

from heapgame import games
from heapgame.errors import HeapgameError, NotAllowed
from heapgame.games import (
    Game, after_reply, is_position, moves_of, positions, relocations, replies, requestable, required_size,
    starts_within)
from heapgame.layouts import Contract

INTERFACE = {
    "is_position": ["contract", "layout"],
    "positions": ["contract"],
    "requestable": ["contract", "layout"],
    "moves_of": ["contract", "layout"],
    "starts_within": ["size", "budget", "layout"],
    "relocations": ["contract", "layout"],
    "replies": ["contract", "layout", "length"],
    "after_reply": ["layout", "length", "reply"],
    "Game": ["contract"],
    "required_size": ["limit", "lengths", "budget", "most"],
}
METHODS = {
    "rank": ["layout"],
    "winner": [],
    "manager_reply": ["layout", "length"],
    "program_move": ["layout"],
}


class InterfaceTest(unittest.TestCase):
    def test_names_and_arguments(self):
        for name, arguments in INTERFACE.items():
            found = getattr(games, name)
            self.assertEqual(list(inspect.signature(found).parameters), arguments, name)
            self.assertEqual(found.__module__, "heapgame.games")
        for name, arguments in METHODS.items():
            self.assertEqual(list(inspect.signature(vars(Game)[name]).parameters)[1:], arguments, name)

    def test_the_field_is_set_at_once(self):
        contract = Contract(3, 2, [1], 0)
        self.assertIs(Game(contract).contract, contract)


class PositionsTest(unittest.TestCase):
    """Promise 31."""

    def test_positions(self):
        contract = Contract(6, 4, [1, 3], 0)
        for layout in ([], [(0, 1)], [(5, 1)], [(0, 3), (3, 1)], [(0, 1), (2, 1), (4, 1), (5, 1)], [(3, 3)]):
            self.assertIs(is_position(contract, layout), True, layout)

    def test_what_is_no_position(self):
        contract = Contract(6, 4, [1, 3], 0)
        for layout in ([(0, 2)], [(0, 1), (3, 2)], [(0, 4)], [(0, 0)], [(0, -1)],
                       [(0, 3), (3, 3)], [(0, 1), (1, 1), (2, 1), (3, 1), (4, 1)], [(0, 3), (3, 1), (4, 1)],
                       [(4, 3)], [(6, 1)], [(5, 1), (6, 1)],
                       [(0, 3), (2, 1)], [(1, 1), (1, 1)], [(2, 1), (0, 1)]):
            self.assertIs(is_position(contract, layout), False, layout)

    def test_a_limit_of_no_cell(self):
        contract = Contract(4, 0, [1], 0)
        self.assertEqual(positions(contract), [[]])
        self.assertIs(is_position(contract, []), True)
        self.assertIs(is_position(contract, [(0, 1)]), False)
        self.assertEqual(moves_of(contract, []), [])

    def test_all_positions_of_few_cells(self):
        for size, limit, lengths, _ in contracts_up_to(5)[::3]:
            contract = Contract(size, limit, lengths, 0)
            self.assertEqual(positions(contract), positions_by_trying(size, limit, lengths), (size, limit, lengths))

    def test_is_position_of_all_lists_of_few_blocks(self):
        blocks = [(start, length) for start in range(4) for length in range(-1, 4)]
        for limit, lengths in ((2, [1, 2]), (3, [1, 2]), (3, [1, 3]), (8, [2])):
            good = positions_by_trying(3, limit, lengths)
            for many in range(3):
                for layout in itertools.product(blocks, repeat=many):
                    contract = Contract(3, limit, lengths, 1)
                    self.assertIs(is_position(contract, list(layout)), list(layout) in good, (limit, lengths, layout))

    def test_a_length_that_is_greater_than_the_heap(self):
        contract = Contract(2, 5, [1, 3], 0)
        self.assertEqual(positions(contract), [[], [(0, 1)], [(0, 1), (1, 1)], [(1, 1)]])
        self.assertEqual(requestable(contract, [(0, 1), (1, 1)]), [1, 3])

    def test_what_may_be_requested(self):
        contract = Contract(8, 5, [1, 2, 4], 0)
        for layout, lengths in (([], [1, 2, 4]), ([(3, 1)], [1, 2, 4]), ([(3, 2)], [1, 2]), ([(0, 4)], [1]),
                                ([(0, 4), (5, 1)], []), ([(0, 1), (2, 2)], [1, 2])):
            self.assertEqual(requestable(contract, layout), lengths)

    def test_moves(self):
        contract = Contract(8, 5, [1, 2, 4], 0)
        self.assertEqual(moves_of(contract, []), [("request", 1), ("request", 2), ("request", 4)])
        self.assertEqual(moves_of(contract, [(1, 2), (5, 1)]),
                         [("release", 0), ("release", 1), ("request", 1), ("request", 2)])
        self.assertEqual(moves_of(contract, [(1, 4), (5, 1)]), [("release", 0), ("release", 1)])


class RepliesTest(unittest.TestCase):
    """Promise 32."""

    def test_starts_within(self):
        self.assertEqual(starts_within(4, 0, []), [[]])
        self.assertEqual(starts_within(4, 2, []), [[]])
        self.assertEqual(starts_within(4, 0, [(1, 2)]), [[1]])
        self.assertEqual(starts_within(4, 1, [(1, 2)]), [[1]])
        self.assertEqual(starts_within(4, 2, [(1, 2)]), [[0], [1], [2]])
        self.assertEqual(starts_within(3, 1, [(0, 1), (2, 1)]), [[0, 0], [0, 1], [0, 2], [1, 2], [2, 2]])
        self.assertEqual(starts_within(3, 1, [(0, 2), (2, 1)]), [[0, 0], [0, 1], [0, 2]])

    def test_starts_within_of_all_small_layouts(self):
        for size in range(1, 5):
            for layout in samples.block_lists(size):
                every = itertools.product(*[range(size - length + 1) for _, length in layout])
                lists = [(samples.cells_moved(layout, starts), list(starts)) for starts in every]
                for budget in range(4):
                    expected = [starts for price, starts in lists if price <= budget]
                    self.assertEqual(starts_within(size, budget, layout), expected)

    def test_relocations(self):
        contract = Contract(3, 3, [1, 2], 1)
        self.assertEqual(relocations(contract, []), [[]])
        self.assertEqual(relocations(contract, [(0, 1), (2, 1)]), [[0, 1], [0, 2], [1, 2]])
        self.assertEqual(relocations(contract, [(0, 2), (2, 1)]), [[0, 2]])
        self.assertEqual(relocations(Contract(3, 3, [1], 2), [(0, 1), (1, 1), (2, 1)]),
                         [[0, 1, 2], [0, 2, 1], [1, 0, 2], [2, 1, 0]])

    def test_relocations_of_all_positions_of_few_cells(self):
        for size, limit, lengths, budget in contracts_up_to(4):
            contract = Contract(size, limit, lengths, budget)
            for layout in positions_by_trying(size, limit, lengths):
                expected = [starts for starts in samples.all_relocations(size, layout)
                            if samples.cells_moved(layout, starts) <= budget]
                self.assertEqual(relocations(contract, layout), expected)

    def test_replies_in_their_order(self):
        self.assertEqual(replies(Contract(3, 2, [1], 0), [], 1), [([], 0, 0), ([], 1, 0), ([], 2, 0)])
        self.assertEqual(replies(Contract(3, 2, [1], 1), [(1, 1)], 1),
                         [([1], 0, 0), ([1], 2, 0), ([0], 1, 1), ([0], 2, 1), ([2], 0, 1), ([2], 1, 1)])
        self.assertEqual(replies(Contract(4, 4, [1, 2], 1), [(1, 1)], 2), [([1], 2, 0), ([0], 1, 1), ([0], 2, 1),
                                                                          ([2], 0, 1), ([3], 0, 1), ([3], 1, 1)])
        self.assertEqual(replies(Contract(5, 4, [1, 2], 2), [(1, 1), (3, 1)], 2)[:9],
                         [([0, 3], 1, 1), ([1, 0], 2, 1), ([1, 0], 3, 1), ([1, 2], 3, 1), ([1, 4], 2, 1),
                          ([2, 3], 0, 1), ([4, 3], 0, 1), ([4, 3], 1, 1), ([0, 1], 2, 2)])

    def test_a_request_that_fails_has_no_reply(self):
        self.assertEqual(replies(Contract(3, 3, [1, 2], 0), [(1, 1)], 2), [])
        self.assertEqual(replies(Contract(2, 3, [3], 2), [], 3), [])
        self.assertEqual(replies(Contract(2, 3, [1], 2), [(0, 1), (1, 1)], 1), [])

    def test_replies_to_all_requests_of_few_cells(self):
        for size, limit, lengths, budget in contracts_up_to(4):
            contract = Contract(size, limit, lengths, budget)
            for layout in positions_by_trying(size, limit, lengths):
                for length in lengths:
                    if live(layout) + length > limit:
                        self.assert_not_allowed(lambda: replies(contract, layout, length), length)
                        continue
                    expected = [(list(starts), start, price) for starts, start, price
                                in replies_by_trying(size, budget, tuple(layout), length)]
                    self.assertEqual(replies(contract, layout, length), expected)

    def test_lengths_that_are_not_allowed(self):
        contract = Contract(6, 4, [1, 3], 1)
        for layout, length in (([], 2), ([], 4), ([], 0), ([], -1), ([(0, 3)], 3), ([(0, 3), (3, 1)], 1),
                               ([(0, 1), (3, 1)], 3)):
            self.assert_not_allowed(lambda: replies(contract, layout, length), length)

    def assert_not_allowed(self, call, length):
        with self.assertRaises(NotAllowed) as caught:
            call()
        self.assertEqual(caught.exception.length, length)
        self.assertIsInstance(caught.exception, HeapgameError)

    def test_after_a_reply(self):
        self.assertEqual(after_reply([], 2, ([], 1, 0)), [(1, 2)])
        self.assertEqual(after_reply([(1, 1), (3, 1)], 2, ([1, 0], 2, 1)), [(0, 1), (1, 1), (2, 2)])
        self.assertEqual(after_reply([(1, 1)], 1, ([2], 0, 1)), [(0, 1), (2, 1)])
        for layout in positions_by_trying(4, 4, [1, 2]):
            for length in (1, 2):
                for starts, start, price in replies_by_trying(4, 2, tuple(layout), length):
                    told = after_reply(layout, length, (list(starts), start, price))
                    self.assertEqual(told, list(behind(tuple(layout), length, (starts, start, price))))


class GameTest(unittest.TestCase):
    """Promises 33 to 35."""

    def test_ranks_and_strategies_of_all_contracts_of_few_cells(self):
        winners = []
        for told in contracts_up_to(3) + contracts_up_to(4)[-170::3]:
            self.check_game(told, winners)
        self.assertIn("manager", winners)
        self.assertIn("program", winners)

    def test_ranks_and_strategies_of_some_contracts_of_five_cells(self):
        for told in ((5, 4, [1, 2], 0), (5, 4, [1, 3], 1), (5, 5, [1, 2, 3], 0), (5, 4, [1, 2, 3], 1),
                     (5, 3, [1, 2], 0)):
            self.check_game(told, [])

    def check_game(self, told, winners):
        solved = Solved(*told)
        game = Game(Contract(*told))
        for blocks in solved.positions:
            layout = list(blocks)
            self.assertEqual(game.rank(layout), solved.ranks.get(blocks), (told, layout))
            self.assertEqual(game.program_move(layout), solved.program_move(blocks), (told, layout))
            for length in told[2]:
                if live(layout) + length > told[1]:
                    with self.assertRaises(NotAllowed) as caught:
                        game.manager_reply(layout, length)
                    self.assertEqual(caught.exception.length, length)
                    continue
                reply = game.manager_reply(layout, length)
                self.assertEqual(reply and (tuple(reply[0]),) + reply[1:], solved.manager_reply(blocks, length),
                                 (told, layout, length))
        self.assertEqual(game.winner(), "program" if () in solved.ranks else "manager", told)
        self.assertLessEqual(max(list(solved.ranks.values()), default=0), len(solved.positions))
        winners.append(game.winner())

    def test_a_game_in_full(self):
        game = Game(Contract(3, 3, [1, 2], 0))
        told = [
            ([], 6, ("request", 1)),
            ([(0, 1)], 5, ("request", 1)),
            ([(0, 1), (1, 1)], 2, ("release", 0)),
            ([(0, 1), (1, 1), (2, 1)], 3, ("release", 0)),
            ([(0, 1), (1, 2)], 6, ("release", 1)),
            ([(0, 1), (2, 1)], 4, ("request", 1)),
            ([(0, 2)], 7, ("release", 0)),
            ([(0, 2), (2, 1)], 6, ("release", 0)),
            ([(1, 1)], 1, ("request", 2)),
            ([(1, 1), (2, 1)], 2, ("release", 1)),
            ([(1, 2)], 7, ("release", 0)),
            ([(2, 1)], 5, ("request", 1))]
        self.assertEqual(positions(game.contract), [layout for layout, _, _ in told])
        for layout, rank, move in told:
            self.assertEqual((game.rank(layout), game.program_move(layout)), (rank, move))
        self.assertEqual(game.winner(), "program")
        self.assertEqual(game.manager_reply([], 1), ([], 0, 0))
        self.assertEqual(game.manager_reply([(0, 1)], 1), ([0], 2, 0))
        self.assertEqual(game.manager_reply([(0, 1)], 2), ([0], 1, 0))
        self.assertIsNone(game.manager_reply([(1, 1)], 2))

    def test_what_is_not_allowed(self):
        game = Game(Contract(4, 3, [1, 2], 1))
        for layout, length in (([], 3), ([], 0), ([(0, 2)], 2), ([(0, 2), (2, 1)], 1)):
            with self.assertRaises(NotAllowed) as caught:
                game.manager_reply(layout, length)
            self.assertEqual(caught.exception.length, length)

    def test_a_failure_of_a_request_that_is_longer_than_the_heap(self):
        game = Game(Contract(2, 3, [3], 2))
        self.assertEqual((game.rank([]), game.winner(), game.program_move([])), (1, "program", ("request", 3)))
        self.assertIsNone(game.manager_reply([], 3))

    def test_contracts_without_a_move(self):
        game = Game(Contract(1, 0, [1], 0))
        self.assertEqual((game.rank([]), game.winner(), game.program_move([])), (None, "manager", None))
        game = Game(Contract(1, 2, [3], 0))
        self.assertEqual((game.rank([]), game.winner(), game.program_move([])), (None, "manager", None))

    def test_the_manager_serves_every_program(self):
        for told in ((3, 3, [1], 0), (4, 4, [2], 0), (4, 3, [1, 2], 0), (4, 4, [1, 2], 1), (5, 5, [1, 2], 1),
                     (5, 4, [1, 3], 2)):
            game = Game(Contract(*told))
            self.assertEqual(game.winner(), "manager", told)
            seen = {()}
            waiting = [()]
            while waiting:
                layout = list(waiting.pop())
                for kind, number in moves_of(game.contract, layout):
                    if kind == "release":
                        after = layout[:number] + layout[number + 1:]
                    else:
                        reply = game.manager_reply(layout, number)
                        self.assertIsNotNone(reply)
                        after = after_reply(layout, number, reply)
                    self.assertIsNone(game.rank(after))
                    if tuple(after) not in seen:
                        seen.add(tuple(after))
                        waiting.append(tuple(after))

    def test_the_program_makes_every_manager_fail_within_the_rank(self):
        for told in ((3, 3, [1, 2], 0), (4, 4, [1, 2], 0), (5, 5, [1, 2, 3], 0), (5, 5, [1, 3], 0), (6, 6, [2, 3], 1)):
            game = Game(Contract(*told))
            self.assertEqual(game.winner(), "program", told)
            lost = [layout for layout in positions(game.contract) if game.rank(layout) is not None]
            for layout in lost:
                self.assertEqual(self.most_moves(game, tuple(layout), {}), game.rank(layout))

    def most_moves(self, game, blocks, known):
        """The moves, of all managers, until the program's strategy makes one fail."""
        if blocks not in known:
            kind, number = game.program_move(list(blocks))
            if kind == "release":
                outcomes = [blocks[:number] + blocks[number + 1:]]
            else:
                outcomes = [behind(blocks, number, reply) for reply in replies(game.contract, list(blocks), number)]
            known[blocks] = 1 + max([self.most_moves(game, other, known) for other in outcomes], default=0)
        return known[blocks]

    def test_the_managers_strategy_takes_exactly_that_many_moves(self):
        for told in ((3, 3, [1, 2], 0), (4, 4, [1, 2], 0), (5, 5, [1, 2, 3], 0), (6, 6, [1, 4], 1),
                     (8, 7, [1, 2, 4], 0)):
            game = Game(Contract(*told))
            self.assertEqual(game.winner(), "program", told)
            layout = []
            moves = 0
            while layout is not None:
                kind, number = game.program_move(layout)
                moves += 1
                if kind == "release":
                    layout = layout[:number] + layout[number + 1:]
                else:
                    reply = game.manager_reply(layout, number)
                    layout = None if reply is None else after_reply(layout, number, reply)
            self.assertEqual(moves, game.rank([]))

    def test_contracts_of_five_and_of_eight_cells_take_seconds(self):
        for size, seconds in ((5, 5), (8, 20)):
            for limit in (size - 1, size):
                for lengths in ([1], [1, 2], [1, 2, 3], [2, 3]):
                    before = time.process_time()
                    Game(Contract(size, limit, lengths, 2)).winner()
                    self.assertLess(time.process_time() - before, seconds)


class RequiredSizeTest(unittest.TestCase):
    """The first sentence of promise 42, and its facts."""

    def test_the_least_size_with_which_the_manager_wins(self):
        for limit in range(5):
            for lengths in LENGTHS:
                for budget in range(3):
                    won = [size for size in range(1, 5) if () not in Solved(size, limit, lengths, budget).ranks]
                    for most in range(1, 5):
                        expected = min([size for size in won if size <= most], default=None)
                        self.assertEqual(required_size(limit, lengths, budget, most), expected,
                                         (limit, lengths, budget))

    def test_with_and_without_such_a_size(self):
        self.assertEqual(required_size(4, [1, 2], 0, 8), 5)
        self.assertEqual(required_size(4, [1, 2], 0, 5), 5)
        self.assertIsNone(required_size(4, [1, 2], 0, 4))
        self.assertEqual(required_size(4, [1, 2], 1, 4), 4)
        self.assertIsNone(required_size(3, [1, 2], 0, 0))

    def test_a_limit_of_no_cell_needs_one(self):
        self.assertEqual(required_size(0, [1, 2, 3], 0, 8), 1)
        self.assertIsNone(required_size(0, [1], 0, 0))

    def test_a_single_length(self):
        for limit in range(9):
            for length in range(1, 5):
                self.assertEqual(required_size(limit, [length], 0, 8), max(1, length * (limit // length)))

    def test_a_budget_of_at_least_the_limit(self):
        for limit in range(1, 5):
            for lengths in ([1, 2], [1, 3], [1, 2, 3]):
                self.assertLessEqual(required_size(limit, lengths, limit, 8), limit)

    def test_it_does_not_grow_with_the_budget(self):
        for limit in range(6):
            for lengths in ([1, 2], [1, 3], [2, 3], [1, 2, 3]):
                found = [required_size(limit, lengths, budget, 8) for budget in range(3)]
                self.assertNotIn(None, found)
                self.assertEqual(found, sorted(found, reverse=True))


class ListsTest(unittest.TestCase):
    """Promise 3."""

    def check(self, call, *lists):
        """Change what a call returns, and all lists within; the lists and what the call returns again stay."""
        before = copy.deepcopy(lists)
        first = call()
        again = copy.deepcopy(first)
        self.assertIsInstance(first, list)
        for row in list(first):
            for part in [row] + (list(row) if isinstance(row, tuple) else []):
                if isinstance(part, list):
                    part.append("changed")
        first.append("changed")
        self.assertEqual(lists, before)
        self.assertEqual(call(), again)

    def test_lists_stay_and_new_ones_are_returned(self):
        contract = Contract(5, 4, [1, 2], 2)
        for layout in ([], [(1, 1)], [(0, 1), (2, 2)]):
            for call in (lambda: positions(contract), lambda: requestable(contract, layout),
                         lambda: moves_of(contract, layout), lambda: starts_within(5, 2, layout),
                         lambda: relocations(contract, layout), lambda: replies(contract, layout, 1)):
                self.check(call, layout, contract.lengths)
            starts = [start for start, _ in layout]
            self.check(lambda: after_reply(layout, 1, (starts, 4, 0)), layout, starts)
            before = list(layout)
            is_position(contract, layout)
            self.assertEqual(layout, before)

    def test_the_lists_of_two_replies_are_not_the_same_one(self):
        found = replies(Contract(5, 4, [1, 2], 0), [(1, 1)], 1)
        found[0][0].append("changed")
        self.assertEqual(found[1], ([1], 2, 0))

    def test_lists_that_a_game_is_asked_with_stay(self):
        game = Game(Contract(5, 4, [1, 2], 1))
        layout = [(0, 1), (2, 1)]
        game.rank(layout)
        game.program_move(layout)
        starts, start, price = game.manager_reply(layout, 2)
        starts.append("changed")
        self.assertEqual(game.manager_reply(layout, 2), (starts[:-1], start, price))
        self.assertEqual(layout, [(0, 1), (2, 1)])
        lengths = [1, 2]
        required_size(2, lengths, 0, 3)
        self.assertEqual(lengths, [1, 2])


if __name__ == "__main__":
    unittest.main()
