"""The policies: promise 8, and 3 over it."""

import inspect
import unittest

import samples

from heapgame import placement
from heapgame.placement import first_place, place_block, places

INTERFACE = {
    "places": ["size", "layout", "length"],
    "first_place": ["found", "cursor"],
    "place_block": ["size", "layout", "length", "policy", "cursor"],
}
POLICIES = ("first", "best", "worst", "next")
SIZE = 6
LAYOUTS = samples.block_lists(SIZE)


class InterfaceTest(unittest.TestCase):
    def test_names_and_arguments(self):
        for name, arguments in INTERFACE.items():
            found = getattr(placement, name)
            self.assertEqual(list(inspect.signature(found).parameters), arguments, name)
            self.assertEqual(found.__module__, "heapgame.placement")
        self.assertEqual(inspect.signature(place_block).parameters["cursor"].default, 0)


class PlacesTest(unittest.TestCase):
    def test_places_of_all_layouts(self):
        for layout in LAYOUTS:
            for length in range(1, SIZE + 2):
                self.assertEqual(places(SIZE, layout, length), samples.starts_that_fit(SIZE, layout, length))

    def test_ordinary_places(self):
        self.assertEqual(places(8, [(2, 1), (5, 1)], 2), [0, 3, 6])
        self.assertEqual(places(8, [(0, 1), (5, 1)], 2), [1, 2, 3, 6])
        self.assertEqual(places(8, [(0, 1), (5, 1)], 4), [1])
        self.assertEqual(places(8, [(0, 1), (5, 1)], 5), [])

    def test_the_smallest_and_the_greatest_heap(self):
        self.assertEqual(places(1, [], 1), [0])
        self.assertEqual(places(1, [(0, 1)], 1), [])
        self.assertEqual(places(64, [], 1), list(range(64)))
        self.assertEqual(places(64, [], 64), [0])
        self.assertEqual(places(64, [], 65), [])

    def test_first_place(self):
        self.assertEqual(first_place([1, 4, 6], 0), 1)
        self.assertEqual(first_place([1, 4, 6], 1), 1)
        self.assertEqual(first_place([1, 4, 6], 2), 4)
        self.assertEqual(first_place([1, 4, 6], 6), 6)
        self.assertEqual(first_place([1, 4, 6], 7), 1)
        self.assertEqual(first_place([0], 5), 0)
        self.assertIsNone(first_place([], 0))
        self.assertIsNone(first_place([], 3))


class PolicyTest(unittest.TestCase):
    def test_all_layouts_with_each_policy_length_and_cursor(self):
        for layout in LAYOUTS:
            for length in range(1, SIZE + 2):
                for policy in POLICIES:
                    for cursor in range(SIZE + 1):
                        self.assertEqual(
                            place_block(SIZE, layout, length, policy, cursor),
                            samples.start_by_policy(SIZE, layout, length, policy, cursor),
                            (layout, length, policy, cursor))

    def test_several_gaps_of_equal_length(self):
        # gaps: (0, 3), (4, 2), (7, 2), (10, 3)
        layout = [(3, 1), (6, 1), (9, 1)]
        self.assertEqual(place_block(13, layout, 1, "first"), 0)
        self.assertEqual(place_block(13, layout, 1, "best"), 4)
        self.assertEqual(place_block(13, layout, 1, "worst"), 0)
        self.assertEqual(place_block(13, layout, 1, "next"), 0)
        # gaps: (0, 1), (2, 3), (6, 3), (10, 1)
        layout = [(1, 1), (5, 1), (9, 1)]
        self.assertEqual(place_block(11, layout, 1, "worst"), 2)
        self.assertEqual(place_block(11, layout, 1, "best"), 0)
        self.assertEqual(place_block(11, layout, 2, "best"), 2)
        self.assertEqual(place_block(11, layout, 2, "first"), 2)
        self.assertEqual(place_block(11, layout, 2, "next", 4), 6)

    def test_best_takes_a_shortest_gap_and_worst_a_longest_one(self):
        # gaps: (0, 3), (4, 1), (6, 2), (9, 4)
        layout = [(3, 1), (5, 1), (8, 1)]
        self.assertEqual([place_block(13, layout, 2, policy) for policy in POLICIES], [0, 6, 9, 0])
        self.assertEqual([place_block(13, layout, 3, policy) for policy in POLICIES], [0, 0, 9, 0])

    def test_a_block_as_long_as_a_gap(self):
        layout = [(2, 1), (7, 1)]
        for policy in POLICIES:
            self.assertEqual(place_block(10, layout, 4, policy), 3)
            self.assertEqual(place_block(10, [], 10, policy), 0)
            self.assertEqual(place_block(1, [], 1, policy), 0)
            self.assertEqual(place_block(64, [], 64, policy), 0)

    def test_a_block_that_fits_nowhere(self):
        layout = [(2, 1), (7, 1)]
        for policy in POLICIES:
            for cursor in range(11):
                self.assertIsNone(place_block(10, layout, 5, policy, cursor))
                self.assertIsNone(place_block(10, [(0, 10)], 1, policy, cursor))
                self.assertIsNone(place_block(10, [], 11, policy, cursor))

    def test_next_with_each_cursor(self):
        # gaps: (0, 2), (3, 3), (8, 1); the cursor also lies in blocks, in the last gap and at the size.
        layout = [(2, 1), (6, 2)]
        found = [place_block(9, layout, 2, "next", cursor) for cursor in range(10)]
        self.assertEqual(found, [0, 3, 3, 3, 4, 0, 0, 0, 0, 0])
        found = [place_block(9, layout, 1, "next", cursor) for cursor in range(10)]
        self.assertEqual(found, [0, 1, 3, 3, 4, 5, 8, 8, 8, 0])

    def test_next_may_begin_within_a_gap(self):
        self.assertEqual([place_block(4, [], 2, "next", cursor) for cursor in range(5)], [0, 1, 2, 0, 0])

    def test_only_next_looks_at_the_cursor(self):
        for policy, start in (("first", 0), ("best", 3), ("worst", 5), ("next", 5)):
            self.assertEqual(place_block(9, [(2, 1), (4, 1)], 1, policy, 4), start)

    def test_a_cursor_somewhat_beyond_the_size_raises_nothing(self):
        self.assertEqual(place_block(4, [(0, 1)], 1, "next", 6), 1)

    def test_a_somewhat_greater_heap_raises_nothing(self):
        for policy in POLICIES:
            self.assertEqual(place_block(70, [(0, 66)], 4, policy), 66)


class ListsTest(unittest.TestCase):
    """Promise 3."""

    def test_no_list_that_is_passed_in_is_changed(self):
        for layout in LAYOUTS:
            before = list(layout)
            for length in range(1, SIZE + 1):
                places(SIZE, layout, length)
                for policy in POLICIES:
                    place_block(SIZE, layout, length, policy, 3)
            self.assertEqual(layout, before)
        found = [1, 4]
        first_place(found, 2)
        first_place(found, 9)
        self.assertEqual(found, [1, 4])

    def test_the_list_of_places_is_a_new_one(self):
        layout = [(1, 1)]
        found = places(4, layout, 1)
        found.append(9)
        self.assertEqual(places(4, layout, 1), [0, 2, 3])
        self.assertEqual(layout, [(1, 1)])


if __name__ == "__main__":
    unittest.main()
