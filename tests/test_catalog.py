"""Contracts beside one another: promises 41 and 42, and 3 over them."""

import functools
import inspect
import itertools
import time
import unittest

from solved import LENGTHS, Solved, contracts_up_to

from heapgame import catalog
from heapgame.catalog import hardest, is_better, saved, single_size, sizes
from heapgame.games import Game
from heapgame.layouts import Contract

INTERFACE = {
    "is_better": ["one", "other"],
    "hardest": ["contracts"],
    "single_size": ["limit", "length"],
    "sizes": ["limits", "lengths", "budgets", "most"],
    "saved": ["limit", "lengths", "budget", "most"],
}


def better(one, other):
    """Whether a contract, told as a tuple, is better than another one: promise 41."""
    size, limit, lengths, budget = one
    return (size >= other[0] and limit <= other[1] and set(lengths) <= set(other[2]) and budget >= other[3])


@functools.lru_cache(None)
def manager_wins(size, limit, lengths, budget):
    return () not in Solved(size, limit, list(lengths), budget).ranks


def least_size(limit, lengths, budget, most):
    """The least size, sizes tried one by one."""
    for size in range(1, most + 1):
        if manager_wins(size, limit, tuple(lengths), budget):
            return size
    return None


class InterfaceTest(unittest.TestCase):
    def test_names_and_arguments(self):
        for name, arguments in INTERFACE.items():
            found = getattr(catalog, name)
            self.assertEqual(list(inspect.signature(found).parameters), arguments, name)
            self.assertEqual(found.__module__, "heapgame.catalog")


class IsBetterTest(unittest.TestCase):
    """Promise 41."""

    def test_one_part_alone(self):
        told = Contract(5, 4, [1, 3], 1)
        for other, here, there in (
                (Contract(5, 4, [1, 3], 1), True, True),
                (Contract(6, 4, [1, 3], 1), False, True), (Contract(4, 4, [1, 3], 1), True, False),
                (Contract(5, 5, [1, 3], 1), True, False), (Contract(5, 3, [1, 3], 1), False, True),
                (Contract(5, 4, [1, 3], 2), False, True), (Contract(5, 4, [1, 3], 0), True, False),
                (Contract(5, 4, [3], 1), False, True), (Contract(5, 4, [1], 1), False, True),
                (Contract(5, 4, [1, 2, 3], 1), True, False), (Contract(5, 4, [1, 2], 1), False, False),
                (Contract(5, 4, [2], 1), False, False)):
            self.assertIs(is_better(told, other), here)
            self.assertIs(is_better(other, told), there)

    def test_several_parts(self):
        told = Contract(5, 4, [1, 3], 1)
        self.assertIs(is_better(Contract(6, 3, [1], 2), told), True)
        self.assertIs(is_better(Contract(6, 3, [1], 0), told), False)
        self.assertIs(is_better(Contract(4, 3, [1], 2), told), False)
        self.assertIs(is_better(Contract(6, 5, [1], 2), told), False)
        self.assertIs(is_better(Contract(6, 3, [2], 2), told), False)
        self.assertIs(is_better(told, Contract(6, 3, [1], 2)), False)

    def test_each_contract_is_better_than_itself(self):
        for told in contracts_up_to(3):
            contract = Contract(*told)
            self.assertIs(is_better(contract, contract), True)
            self.assertIs(is_better(contract, Contract(*told)), True)

    def test_all_pairs(self):
        for one, other in itertools.product(contracts_up_to(3)[::2], repeat=2):
            self.assertIs(is_better(Contract(*one), Contract(*other)), better(one, other), (one, other))

    def test_the_manager_wins_each_contract_that_is_better_than_one_it_wins(self):
        every = contracts_up_to(3)
        won = [told for told in every if Game(Contract(*told)).winner() == "manager"]
        for one, other in itertools.product(every, won):
            if is_better(Contract(*one), Contract(*other)):
                self.assertIn(one, won, other)


class HardestTest(unittest.TestCase):
    """Promise 41."""

    def check(self, tolds, places):
        self.assertEqual(hardest([Contract(*told) for told in tolds]), places, tolds)

    def test_no_contract_and_one(self):
        self.check([], [])
        self.check([(3, 2, [1], 0)], [0])

    def test_equal_contracts(self):
        self.check([(3, 2, [1], 0)] * 3, [0, 1, 2])
        self.check([(3, 2, [1, 2], 0), (4, 2, [1], 0), (3, 2, [1, 2], 0)], [0, 2])
        self.check([(4, 2, [1], 0), (3, 2, [1], 0), (4, 2, [1], 0)], [1])

    def test_a_chain(self):
        self.check([(4, 2, [1], 0), (3, 2, [1], 0), (2, 2, [1], 0)], [2])
        self.check([(2, 2, [1], 0), (3, 2, [1], 0), (4, 2, [1], 0)], [0])
        self.check([(3, 3, [1, 2], 1), (3, 2, [1, 2], 1), (3, 3, [1, 2], 0), (3, 3, [1, 2, 3], 0)], [3])

    def test_contracts_of_which_none_is_better(self):
        self.check([(3, 2, [1], 0), (4, 3, [1], 0), (3, 1, [2], 0)], [0, 1, 2])

    def test_all_lists_of_three_contracts(self):
        some = contracts_up_to(2)[::7]
        for tolds in itertools.product(some, repeat=3):
            expected = [at for at in range(3)
                        if not any(better(tolds[at], other) and not better(other, tolds[at]) for other in tolds)]
            self.check(tolds, expected)

    def test_whoever_wins_the_hardest_contracts_wins_all(self):
        every = [Contract(*told) for told in contracts_up_to(3) if Game(Contract(*told)).winner() == "manager"]
        found = hardest(every)
        self.assertEqual(found, sorted(found))
        self.assertLess(len(found), len(every) // 2)
        for contract in every:
            self.assertTrue(any(is_better(contract, every[place]) for place in found))


class SizesTest(unittest.TestCase):
    """Promise 42."""

    def test_single_size(self):
        for limit in range(9):
            for length in range(1, 9):
                most = max([length * many for many in range(9) if length * many <= limit])
                self.assertEqual(single_size(limit, length), most)
        self.assertEqual((single_size(7, 3), single_size(2, 3), single_size(0, 1)), (6, 0, 0))

    def test_a_single_length_needs_that_size_and_at_least_1(self):
        for length in range(1, 6):
            expected = [[max(1, single_size(limit, length))] * 2 for limit in range(9)]
            self.assertEqual(sizes(list(range(9)), [length], [0, 1], 8), expected)

    def test_sizes_tried_one_by_one(self):
        for lengths in LENGTHS:
            for most in (0, 1, 3, 4):
                expected = [[least_size(limit, lengths, budget, most) for budget in range(3)] for limit in range(5)]
                self.assertEqual(sizes(list(range(5)), lengths, [0, 1, 2], most), expected, (lengths, most))

    def test_several_limits_and_budgets_in_any_order(self):
        self.assertEqual(sizes([4, 2], [1, 2], [1, 0], 8), [[4, 5], [2, 2]])
        self.assertEqual(sizes([4], [1, 2], [0], 8), [[5]])
        self.assertEqual(sizes([], [1, 2], [0, 1], 8), [])
        self.assertEqual(sizes([4, 2], [1, 2], [], 8), [[], []])
        self.assertEqual(sizes([4, 4], [1, 2], [0, 0], 8), [[5, 5], [5, 5]])

    def test_no_such_size(self):
        self.assertEqual(sizes([4, 2], [1, 2], [0, 1], 4), [[None, 4], [2, 2]])
        self.assertEqual(sizes([4, 2], [1, 2], [0, 1], 5), [[5, 4], [2, 2]])
        self.assertEqual(sizes([4, 0], [1, 2], [0, 1], 0), [[None, None], [None, None]])

    def test_a_limit_of_0(self):
        for lengths in LENGTHS:
            self.assertEqual(sizes([0], lengths, [0, 1, 2], 3), [[1, 1, 1]])

    def test_a_budget_of_at_least_the_limit(self):
        for limit in range(5):
            for lengths in LENGTHS:
                for budget in (limit, limit + 1):
                    self.assertLessEqual(sizes([limit], lengths, [budget], 8)[0][0], max(1, limit))

    def test_it_does_not_grow_with_the_budget(self):
        for lengths in LENGTHS:
            for row in sizes(list(range(6)), lengths, [0, 1, 2], 8):
                self.assertEqual(row, sorted(row, reverse=True))


class SavedTest(unittest.TestCase):
    """Promise 42."""

    def test_saved(self):
        for limit in range(5):
            for lengths in ([1, 2], [1, 3], [1, 2, 3], [2]):
                for budget in range(3):
                    for most in (3, 4, 8):
                        (without_budget, with_budget), = sizes([limit], lengths, [0, budget], most)
                        none = without_budget is None or with_budget is None
                        self.assertEqual(saved(limit, lengths, budget, most),
                                         None if none else without_budget - with_budget)

    def test_with_and_without_a_budget(self):
        self.assertEqual(saved(4, [1, 2], 1, 8), 1)
        self.assertEqual(saved(4, [1, 2], 0, 8), 0)
        self.assertEqual(saved(5, [1, 2, 3], 2, 8), 2)
        self.assertEqual(saved(0, [1, 2], 2, 8), 0)

    def test_none(self):
        self.assertIsNone(saved(4, [1, 2], 1, 4))
        self.assertIsNone(saved(4, [1, 2], 1, 3))
        self.assertIsNone(saved(4, [1, 2], 0, 4))


class ListsTest(unittest.TestCase):
    """Promise 3."""

    def test_lists_that_are_passed_in_stay(self):
        limits, lengths, budgets = [3, 0], [1, 2], [1, 0]
        contracts = [Contract(3, 2, lengths, 0), Contract(4, 2, lengths, 0)]
        before = list(contracts)
        sizes(limits, lengths, budgets, 4)
        saved(3, lengths, 1, 4)
        hardest(contracts)
        is_better(*contracts)
        self.assertEqual((limits, lengths, budgets), ([3, 0], [1, 2], [1, 0]))
        self.assertEqual(contracts, before)
        self.assertEqual([contract.lengths for contract in contracts], [[1, 2], [1, 2]])

    def test_each_list_that_is_returned_is_a_new_one(self):
        found = sizes([2, 2], [1], [0, 1], 4)
        found[0].append("changed")
        found.append("changed")
        self.assertEqual(found[1], [2, 2])
        self.assertEqual(sizes([2, 2], [1], [0, 1], 4), [[2, 2], [2, 2]])
        contracts = [Contract(3, 2, [1], 0)]
        hardest(contracts).append("changed")
        self.assertEqual(hardest(contracts), [0])


class TimeTest(unittest.TestCase):
    def test_contracts_of_five_cells_take_seconds(self):
        before = time.process_time()
        sizes(list(range(6)), [1, 2, 3], [0, 1, 2], 5)
        saved(5, [1, 2, 3], 2, 5)
        hardest([Contract(*told) for told in contracts_up_to(5)])
        self.assertLess(time.process_time() - before, 5)


if __name__ == "__main__":
    unittest.main()
