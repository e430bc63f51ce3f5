"""Relocations: promise 16, and 3 over it."""

import inspect
import itertools
import unittest

import samples

from heapgame import relocations
from heapgame.relocations import cost, is_relocation, keeps_order, placed, relocated

INTERFACE = {
    "placed": ["layout", "starts"],
    "relocated": ["layout", "starts"],
    "cost": ["layout", "starts"],
    "is_relocation": ["size", "layout", "starts"],
    "keeps_order": ["layout", "starts"],
}
SIZE = 5
LAYOUTS = samples.block_lists(SIZE)


class InterfaceTest(unittest.TestCase):
    def test_names_and_arguments(self):
        for name, arguments in INTERFACE.items():
            found = getattr(relocations, name)
            self.assertEqual(list(inspect.signature(found).parameters), arguments, name)
            self.assertEqual(found.__module__, "heapgame.relocations")


class RelocationTest(unittest.TestCase):
    def test_the_same_order(self):
        layout = [(1, 2), (4, 1), (6, 2)]
        self.assertEqual(placed(layout, [0, 2, 6]), [(0, 2), (2, 1), (6, 2)])
        self.assertEqual(relocated(layout, [0, 2, 6]), [(0, 2), (2, 1), (6, 2)])
        self.assertEqual(cost(layout, [0, 2, 6]), 3)
        self.assertIs(is_relocation(8, layout, [0, 2, 6]), True)
        self.assertIs(keeps_order(layout, [0, 2, 6]), True)

    def test_another_order(self):
        layout = [(1, 2), (4, 1), (6, 2)]
        self.assertEqual(placed(layout, [6, 3, 0]), [(6, 2), (3, 1), (0, 2)])
        self.assertEqual(relocated(layout, [6, 3, 0]), [(0, 2), (3, 1), (6, 2)])
        self.assertEqual(cost(layout, [6, 3, 0]), 5)
        self.assertIs(is_relocation(8, layout, [6, 3, 0]), True)
        self.assertIs(keeps_order(layout, [6, 3, 0]), False)
        self.assertIs(keeps_order(layout, [2, 1, 6]), False)
        self.assertIs(keeps_order(layout, [0, 5, 3]), False)

    def test_nothing_is_moved(self):
        layout = [(1, 2), (4, 1), (6, 2)]
        self.assertEqual(relocated(layout, [1, 4, 6]), layout)
        self.assertEqual(cost(layout, [1, 4, 6]), 0)
        self.assertIs(is_relocation(8, layout, [1, 4, 6]), True)
        self.assertIs(keeps_order(layout, [1, 4, 6]), True)

    def test_no_block(self):
        self.assertEqual(placed([], []), [])
        self.assertEqual(relocated([], []), [])
        self.assertEqual(cost([], []), 0)
        self.assertIs(is_relocation(4, [], []), True)
        self.assertIs(keeps_order([], []), True)

    def test_a_block_that_is_moved_onto_cells_of_its_own_costs_all_of_its_cells(self):
        self.assertEqual(cost([(1, 3)], [2]), 3)
        self.assertIs(is_relocation(5, [(1, 3)], [2]), True)

    def test_blocks_that_overlap(self):
        layout = [(0, 2), (3, 1)]
        for starts in ([0, 0], [0, 1], [3, 3], [2, 3], [1, 2], [4, 4]):
            self.assertIs(is_relocation(6, layout, starts), False, starts)
        self.assertIs(is_relocation(6, [(0, 2), (3, 2)], [3, 3]), False)

    def test_the_heap_is_left(self):
        layout = [(0, 2), (3, 1)]
        for starts in ([-1, 3], [0, -1], [-2, 3], [0, 6], [5, 3], [6, 3], [0, 7], [-5, 3]):
            self.assertIs(is_relocation(6, layout, starts), False, starts)
        for starts in ([4, 0], [0, 5], [4, 3]):
            self.assertIs(is_relocation(6, layout, starts), True, starts)

    def test_too_few_or_too_many_starts(self):
        layout = [(0, 2), (3, 1)]
        for starts in ([], [0], [3], [0, 3, 5], [0, 3, 3], [0, 3, 9]):
            self.assertIs(is_relocation(6, layout, starts), False, starts)
        self.assertIs(is_relocation(6, [], [0]), False)

    def test_all_starts_of_small_layouts(self):
        for layout in LAYOUTS:
            good = samples.all_relocations(SIZE, layout)
            if len(layout) > 3:
                continue
            for starts in itertools.product(range(-1, SIZE + 1), repeat=len(layout)):
                self.assertIs(is_relocation(SIZE, layout, list(starts)), list(starts) in good, (layout, starts))

    def test_all_relocations_of_small_layouts(self):
        for layout in LAYOUTS:
            for starts in samples.all_relocations(SIZE, layout):
                blocks = samples.moved_blocks(layout, starts)
                self.assertIs(is_relocation(SIZE, layout, starts), True)
                self.assertEqual(placed(layout, starts), blocks)
                self.assertEqual(relocated(layout, starts), sorted(blocks))
                self.assertEqual(cost(layout, starts), samples.cells_moved(layout, starts))
                in_order = all(starts[at] < starts[at + 1] for at in range(len(starts) - 1))
                self.assertIs(keeps_order(layout, starts), in_order)

    def test_the_greatest_heap_and_somewhat_more(self):
        layout = [(cell, 1) for cell in range(64)]
        turned = list(range(63, -1, -1))
        self.assertIs(is_relocation(64, layout, turned), True)
        self.assertEqual(relocated(layout, turned), layout)
        self.assertEqual(cost(layout, turned), 64)
        self.assertIs(keeps_order(layout, turned), False)
        self.assertIs(is_relocation(70, [(0, 2)], [68]), True)
        self.assertIs(is_relocation(64, [(0, 2)], [63]), False)


class ListsTest(unittest.TestCase):
    """Promise 3."""

    def test_lists_stay_and_new_ones_are_returned(self):
        for layout, starts in (([], []), ([(0, 1)], [0]), ([(0, 1), (2, 2)], [3, 0])):
            before = (list(layout), list(starts))
            for call in (placed, relocated):
                first = call(layout, starts)
                again = list(first)
                first.append("changed")
                self.assertEqual((layout, starts), before)
                self.assertEqual(call(layout, starts), again)
            cost(layout, starts)
            is_relocation(5, layout, starts)
            keeps_order(layout, starts)
            self.assertEqual((layout, starts), before)


if __name__ == "__main__":
    unittest.main()
