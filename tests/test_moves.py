"""Safe orders, sliding left, the cheapest room: promises 17 to 21, and 3 over them."""

import inspect
import itertools
import time
import unittest

import samples

from heapgame import moves
from heapgame.maps import relocate_words, relocation_map
from heapgame.moves import cheapest_room, first_slide, meets, schedule_moves, slide_left

INTERFACE = {
    "meets": ["block", "other"],
    "schedule_moves": ["size", "layout", "starts"],
    "slide_left": ["size", "layout"],
    "cheapest_room": ["size", "layout", "pinned", "length"],
}


def is_safe(layout, starts, order):
    """Whether the blocks can be moved one at a time in this order, told by promise 17."""
    lie = [set(samples.cells_of([block])) for block in layout]
    goals = [set(samples.cells_of([block])) for block in samples.moved_blocks(layout, starts)]
    for index in order:
        if any(goals[index] & cells for other, cells in enumerate(lie) if other != index):
            return False
        lie[index] = goals[index]
    return True


def moved_indices(layout, starts):
    return [index for index, block in enumerate(layout) if block[0] != starts[index]]


def order_by_trying(layout, starts):
    """The first safe order; all orders are tried, in the order of lists."""
    for order in itertools.permutations(moved_indices(layout, starts)):
        if is_safe(layout, starts, order):
            return list(order)
    return None


def has_ring(layout, starts):
    """Whether two or more blocks are each moved to cells of the next one, in a ring."""
    cells = [set(samples.cells_of([block])) for block in layout]
    goals = [set(samples.cells_of([block])) for block in samples.moved_blocks(layout, starts)]
    moved = moved_indices(layout, starts)
    reached = {index: {other for other in moved if other != index and goals[index] & cells[other]} for index in moved}
    for _ in moved:
        for index in moved:
            reached[index] |= {last for other in reached[index] for last in reached[other]}
    return any(index in reached[index] for index in moved)


def subsets(many):
    return [list(chosen) for count in range(many + 1) for chosen in itertools.combinations(range(many), count)]


class InterfaceTest(unittest.TestCase):
    def test_names_and_arguments(self):
        for name, arguments in INTERFACE.items():
            found = getattr(moves, name)
            self.assertEqual(list(inspect.signature(found).parameters), arguments, name)
            self.assertEqual(found.__module__, "heapgame.moves")


class MeetsTest(unittest.TestCase):
    def test_all_small_blocks(self):
        blocks = [(start, length) for start in range(5) for length in range(1, 5)]
        for block, other in itertools.product(blocks, repeat=2):
            common = set(samples.cells_of([block])) & set(samples.cells_of([other]))
            self.assertIs(meets(block, other), bool(common), (block, other))


class ScheduleTest(unittest.TestCase):
    """Promises 17 and 18."""

    def test_nothing_is_moved(self):
        self.assertEqual(schedule_moves(4, [], []), [])
        self.assertEqual(schedule_moves(4, [(0, 1), (2, 2)], [0, 2]), [])

    def test_only_moved_blocks_are_listed(self):
        self.assertEqual(schedule_moves(8, [(0, 1), (2, 2), (6, 1)], [0, 3, 6]), [1])
        self.assertEqual(schedule_moves(8, [(0, 1), (2, 2), (6, 1)], [1, 2, 7]), [0, 2])

    def test_blocks_that_wait_for_others(self):
        self.assertEqual(schedule_moves(6, [(0, 2), (2, 2)], [2, 4]), [1, 0])
        self.assertEqual(schedule_moves(6, [(2, 2), (4, 2)], [0, 2]), [0, 1])
        self.assertEqual(schedule_moves(8, [(0, 1), (1, 1), (2, 1), (3, 1)], [1, 2, 3, 5]), [3, 2, 1, 0])
        self.assertEqual(schedule_moves(8, [(0, 1), (1, 1), (2, 1), (3, 1)], [6, 2, 3, 5]), [0, 3, 2, 1])
        self.assertEqual(schedule_moves(8, [(0, 2), (2, 1), (3, 1)], [2, 6, 7]), [1, 2, 0])

    def test_the_first_order_goes_back_to_a_block_that_has_become_free(self):
        # The blocks 0 and 2 can move behind 1 and 3: as soon as 1 is away, 0 comes before 3.
        self.assertEqual(schedule_moves(8, [(0, 1), (1, 1), (2, 1), (3, 1)], [1, 6, 3, 7]), [1, 0, 3, 2])

    def test_a_block_moved_onto_cells_of_its_own(self):
        self.assertEqual(schedule_moves(5, [(1, 3)], [2]), [0])
        self.assertEqual(schedule_moves(5, [(1, 3)], [0]), [0])
        self.assertEqual(schedule_moves(6, [(0, 3), (3, 2)], [1, 4]), [1, 0])

    def test_two_blocks_that_change_places(self):
        self.assertIsNone(schedule_moves(2, [(0, 1), (1, 1)], [1, 0]))
        self.assertIsNone(schedule_moves(9, [(0, 2), (4, 3)], [4, 0]))
        self.assertIsNone(schedule_moves(9, [(0, 2), (4, 3)], [5, 1]))

    def test_a_longer_ring(self):
        self.assertIsNone(schedule_moves(6, [(0, 1), (2, 1), (4, 1)], [2, 4, 0]))
        self.assertIsNone(schedule_moves(6, [(0, 1), (2, 1), (4, 1)], [4, 0, 2]))
        self.assertIsNone(schedule_moves(8, [(0, 1), (2, 1), (4, 1), (6, 1)], [2, 4, 6, 0]))

    def test_a_ring_beside_blocks_that_are_free_to_move(self):
        self.assertIsNone(schedule_moves(8, [(0, 1), (2, 1), (4, 1)], [2, 0, 6]))
        self.assertIsNone(schedule_moves(8, [(0, 1), (3, 1), (4, 1)], [6, 4, 3]))
        self.assertIsNone(schedule_moves(8, [(0, 1), (1, 1), (4, 1), (6, 1)], [1, 4, 0, 7]))

    def test_what_looks_like_a_ring_and_is_none(self):
        self.assertEqual(schedule_moves(8, [(0, 1), (2, 1), (4, 1)], [2, 4, 6]), [2, 1, 0])
        self.assertEqual(schedule_moves(8, [(0, 2), (2, 2)], [2, 4]), [1, 0])

    def test_all_relocations_with_all_orders(self):
        for size in range(1, 6):
            for layout in samples.block_lists(size):
                for starts in samples.all_relocations(size, layout):
                    told = schedule_moves(size, layout, starts)
                    self.assertEqual(told, order_by_trying(layout, starts), (size, layout, starts))
                    self.assertIs(told is None, has_ring(layout, starts))

    def test_three_to_five_blocks_in_a_greater_heap(self):
        for size, layout in ((8, [(0, 2), (3, 1), (5, 2)]), (7, [(0, 1), (1, 2), (4, 1), (6, 1)]),
                             (7, [(0, 1), (1, 1), (3, 1), (4, 1), (6, 1)])):
            for starts in samples.all_relocations(size, layout)[::3]:
                self.assertEqual(schedule_moves(size, layout, starts), order_by_trying(layout, starts))

    def test_words_copied_block_by_block_end_where_the_map_puts_them(self):
        for layout in samples.block_lists(5):
            words = ["free"] * 5
            for index, block in enumerate(layout):
                for cell in samples.cells_of([block]):
                    words[cell] = (index, cell)
            for starts in samples.all_relocations(5, layout):
                order = schedule_moves(5, layout, starts)
                if order is not None:
                    self.check_words(layout, starts, order, words)

    def check_words(self, layout, starts, order, words):
        single = list(words)
        for index in order:
            start, length = layout[index]
            single[starts[index]:starts[index] + length] = single[start:start + length]
        moved = relocate_words(relocation_map(5, layout, starts), words)
        for cell in samples.cells_of(samples.moved_blocks(layout, starts)):
            self.assertEqual(single[cell], moved[cell], (layout, starts))

    def test_six_blocks_take_seconds(self):
        before = time.process_time()
        layout = [(2 * block, 2) for block in range(6)]
        self.assertEqual(schedule_moves(64, layout, [2, 4, 6, 8, 10, 12]), [5, 4, 3, 2, 1, 0])
        self.assertEqual(schedule_moves(64, layout, [20, 22, 24, 26, 28, 30]), [0, 1, 2, 3, 4, 5])
        self.assertIsNone(schedule_moves(64, layout, [2, 4, 6, 8, 10, 0]))
        many = [(cell, 1) for cell in range(63)]
        self.assertEqual(schedule_moves(64, many, list(range(1, 64))), list(range(62, -1, -1)))
        self.assertLess(time.process_time() - before, 5)


class SlideLeftTest(unittest.TestCase):
    """Promise 19."""

    def test_sliding(self):
        self.assertEqual(slide_left(8, []), [])
        self.assertEqual(slide_left(8, [(7, 1)]), [(0, 1)])
        self.assertEqual(slide_left(8, [(1, 2), (4, 1), (6, 2)]), [(0, 2), (2, 1), (3, 2)])
        self.assertEqual(slide_left(8, [(0, 2), (2, 1), (6, 2)]), [(0, 2), (2, 1), (3, 2)])

    def test_blocks_that_lie_to_the_left_already(self):
        for layout in ([(0, 1)], [(0, 2), (2, 1), (3, 2)], [(0, 8)]):
            self.assertEqual(slide_left(8, layout), layout)

    def test_all_small_layouts_and_sliding_twice(self):
        for layout in samples.block_lists(6):
            slid = slide_left(6, layout)
            self.assertEqual([length for _, length in slid], [length for _, length in layout])
            self.assertEqual(samples.cells_of(slid), list(range(len(samples.cells_of(layout)))))
            self.assertEqual(slide_left(6, slid), slid)


class FirstSlideTest(unittest.TestCase):
    """What promises 47 and 52 slide: the first block before which a cell is free, to the end of the one before it."""

    def test_some_layouts(self):
        self.assertIsNone(first_slide([]))
        self.assertIsNone(first_slide([(0, 2), (2, 1)]))
        self.assertEqual(first_slide([(3, 1)]), (0, 0))
        self.assertEqual(first_slide([(0, 2), (2, 1), (5, 2), (8, 1)]), (2, 3))

    def test_all_small_layouts(self):
        for layout in samples.block_lists(6):
            free = set(range(6)) - set(samples.cells_of(layout))
            before = [index for index, (start, _) in enumerate(layout) if start - 1 in free]
            expected = (before[0], sum(length for _, length in layout[:before[0]])) if before else None
            self.assertEqual(first_slide(layout), expected)


class CheapestRoomTest(unittest.TestCase):
    """Promises 20 and 21."""

    def test_room_without_a_move(self):
        self.assertEqual(cheapest_room(8, [(1, 2), (5, 1)], [], 2), ([1, 5], 3, 0))
        self.assertEqual(cheapest_room(8, [(1, 2), (5, 1)], [0, 1], 1), ([1, 5], 0, 0))
        self.assertEqual(cheapest_room(8, [], [], 8), ([], 0, 0))

    def test_the_cheapest_of_several_moves(self):
        self.assertEqual(cheapest_room(8, [(1, 2), (5, 1)], [], 3), ([1, 3], 4, 1))
        self.assertEqual(cheapest_room(8, [(2, 1), (4, 3)], [], 3), ([0, 4], 1, 1))

    def test_ties_in_cost_then_in_the_starts(self):
        self.assertEqual(cheapest_room(5, [(1, 1), (3, 1)], [], 2), ([0, 3], 1, 1))
        self.assertEqual(cheapest_room(7, [(1, 1), (3, 1), (5, 1)], [], 2), ([0, 3, 5], 1, 1))
        self.assertEqual(cheapest_room(5, [(2, 1)], [], 2), ([2], 0, 0))
        self.assertEqual(cheapest_room(5, [(2, 1)], [], 3), ([0], 1, 1))

    def test_pinned_blocks_and_moved_ones(self):
        self.assertEqual(cheapest_room(6, [(0, 1), (2, 2), (5, 1)], [0, 2], 2), ([0, 1, 5], 3, 2))
        self.assertEqual(cheapest_room(6, [(1, 1), (4, 2)], [1], 3), ([0, 4], 1, 1))
        self.assertEqual(cheapest_room(6, [(1, 1), (3, 2)], [0], 3), None)
        self.assertEqual(cheapest_room(7, [(2, 1), (4, 2)], [0], 3), None)
        self.assertEqual(cheapest_room(7, [(1, 1), (4, 2)], [0], 3), ([1, 2], 4, 2))

    def test_all_blocks_pinned(self):
        layout = [(1, 1), (3, 1)]
        self.assertEqual(cheapest_room(6, layout, [0, 1], 2), ([1, 3], 4, 0))
        self.assertIsNone(cheapest_room(6, layout, [0, 1], 3))

    def test_a_block_pinned_in_the_middle(self):
        layout = [(1, 1), (3, 1), (5, 1)]
        self.assertEqual(cheapest_room(7, layout, [1], 2), ([0, 3, 5], 1, 1))
        self.assertIsNone(cheapest_room(7, layout, [1], 4))
        self.assertIsNone(cheapest_room(7, layout, [1], 3))
        self.assertEqual(cheapest_room(7, layout, [], 3), ([0, 1, 5], 2, 2))
        self.assertEqual(cheapest_room(8, layout, [1], 3), ([1, 3, 4], 5, 1))

    def test_all_free_cells_and_one_more(self):
        layout = [(1, 1), (3, 2), (6, 1)]
        self.assertEqual(cheapest_room(8, layout, [], 4), ([0, 1, 3], 4, 4))
        self.assertIsNone(cheapest_room(8, layout, [], 5))
        self.assertIsNone(cheapest_room(2, [(0, 1), (1, 1)], [], 1))
        self.assertIsNone(cheapest_room(4, [], [], 5))

    def test_a_block_without_cells_raises_nothing(self):
        self.assertEqual(cheapest_room(3, [(0, 2), (2, 1)], [], 0)[0], [0, 2])
        self.assertEqual(cheapest_room(3, [(0, 2)], [], 0)[0], [0])

    def check_by_trying(self, size, layout):
        in_order = samples.relocations_in_order(size, layout)
        for pinned in subsets(len(layout)):
            for length in range(1, size + 2):
                self.assertEqual(cheapest_room(size, layout, pinned, length),
                                 samples.room_by_trying(size, layout, in_order, pinned, length),
                                 (size, layout, pinned, length))

    def test_all_small_layouts_with_all_pins_and_lengths(self):
        for size in range(1, 6):
            for layout in samples.block_lists(size):
                self.check_by_trying(size, layout)

    def test_some_greater_layouts(self):
        for layout in samples.block_lists(8)[::37]:
            if len(layout) <= 3:
                self.check_by_trying(8, layout)

    def test_without_pinned_blocks_there_is_room_exactly_if_enough_cells_are_free(self):
        for layout in samples.block_lists(6):
            for length in range(1, 8):
                free = 6 - len(samples.cells_of(layout))
                self.assertIs(cheapest_room(6, layout, [], length) is not None, length <= free)

    def test_the_order_of_the_pinned_indices_does_not_matter(self):
        layout = [(1, 1), (3, 1), (5, 1)]
        self.assertEqual(cheapest_room(8, layout, [2, 0], 3), cheapest_room(8, layout, [0, 2], 3))

    def test_the_greatest_heap_takes_seconds(self):
        before = time.process_time()
        layout = [(2 * block + 1, 1) for block in range(32)]
        self.assertEqual(cheapest_room(64, layout, [], 2), ([0] + list(range(3, 64, 2)), 1, 1))
        self.assertEqual(cheapest_room(64, layout, [], 32)[2], 31)
        self.assertIsNone(cheapest_room(64, layout, [], 33))
        self.assertLess(time.process_time() - before, 10)


class ListsTest(unittest.TestCase):
    """Promise 3."""

    def test_lists_stay_and_new_ones_are_returned(self):
        layout = [(1, 1), (3, 1), (4, 2)]
        starts = [2, 1, 5]
        pinned = [1]
        before = (list(layout), list(starts), list(pinned))
        for call in (lambda: schedule_moves(8, layout, starts), lambda: slide_left(8, layout),
                     lambda: slide_left(8, [(0, 1)]), lambda: cheapest_room(8, layout, pinned, 2)[0],
                     lambda: cheapest_room(8, layout, [], 1)[0]):
            first = call()
            again = list(first)
            self.assertIsInstance(first, list)
            first.append("changed")
            self.assertEqual((layout, starts, pinned), before)
            self.assertEqual(call(), again)


if __name__ == "__main__":
    unittest.main()
