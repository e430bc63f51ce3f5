"""Address maps: promises 13 to 15, the map of a relocation (16), and 3 over them."""

import copy
import inspect
import itertools
import unittest

import samples

from heapgame import maps
from heapgame.errors import HeapgameError, MapLeaves
from heapgame.maps import (
    canonical, compose_maps, invert_map, is_map, map_address, pairs_of, relocate_words, relocation_map)

INTERFACE = {
    "pairs_of": ["pieces"],
    "canonical": ["pairs"],
    "is_map": ["pieces"],
    "map_address": ["pieces", "address"],
    "compose_maps": ["first", "second"],
    "invert_map": ["pieces"],
    "relocate_words": ["pieces", "words"],
    "relocation_map": ["size", "layout", "starts"],
}
ADDRESSES = 4


def table_of(pieces):
    """The target of each source of pieces, address by address."""
    table = {}
    for source, target, length in pieces:
        for step in range(length):
            table[source + step] = target + step
    return table


def all_tables(addresses):
    """All ways to map some of so many addresses to different ones of as many."""
    found = []
    for targets in itertools.product([None] + list(range(addresses)), repeat=addresses):
        table = {source: target for source, target in enumerate(targets) if target is not None}
        if len(set(table.values())) == len(table):
            found.append(table)
    return found


def pieces_of(table):
    """The pieces of a table with as few pieces as possible, found by cutting a row of sources where it breaks."""
    sources = sorted(table)
    cuts = [index for index, source in enumerate(sources)
            if index == 0 or sources[index - 1] != source - 1 or table[source - 1] != table[source] - 1]
    ends = cuts[1:] + [len(sources)]
    return [(sources[cut], table[sources[cut]], end - cut) for cut, end in zip(cuts, ends)]


def is_map_by_the_words(pieces):
    """Whether pieces are canonical, each of the conditions of promise 13 by itself."""
    if any(length < 1 for _, _, length in pieces):
        return False
    sources = [source + step for source, _, length in pieces for step in range(length)]
    targets = [target + step for _, target, length in pieces for step in range(length)]
    if len(set(sources)) < len(sources) or len(set(targets)) < len(targets):
        return False
    if sorted(pieces, key=lambda piece: piece[0]) != pieces:
        return False
    ends = [(source + length, target + length) for source, target, length in pieces]
    return all(end != (source, target) for end, (source, target, _) in zip(ends, pieces[1:]))


TABLES = all_tables(ADDRESSES)


class InterfaceTest(unittest.TestCase):
    def test_names_and_arguments(self):
        for name, arguments in INTERFACE.items():
            found = getattr(maps, name)
            self.assertEqual(list(inspect.signature(found).parameters), arguments, name)
            self.assertEqual(found.__module__, "heapgame.maps")


class CanonicalTest(unittest.TestCase):
    """Promise 13."""

    def test_pairs(self):
        self.assertEqual(pairs_of([]), [])
        self.assertEqual(pairs_of([(3, 7, 1)]), [(3, 7)])
        self.assertEqual(pairs_of([(0, 5, 3), (8, 1, 2)]), [(0, 5), (1, 6), (2, 7), (8, 1), (9, 2)])
        self.assertEqual(pairs_of([(0, 5, 2), (2, 7, 1)]), [(0, 5), (1, 6), (2, 7)])

    def test_pairs_of_a_map_that_is_not_canonical_stay_in_its_order(self):
        self.assertEqual(pairs_of([(8, 1, 2), (0, 5, 1)]), [(8, 1), (9, 2), (0, 5)])

    def test_canonical_pieces(self):
        self.assertEqual(canonical([]), [])
        self.assertEqual(canonical([(4, 4)]), [(4, 4, 1)])
        self.assertEqual(canonical([(0, 5), (1, 6), (2, 7), (8, 1), (9, 2)]), [(0, 5, 3), (8, 1, 2)])

    def test_only_what_continues_in_both_is_one_piece(self):
        self.assertEqual(canonical([(0, 5), (1, 4)]), [(0, 5, 1), (1, 4, 1)])
        self.assertEqual(canonical([(0, 5), (2, 6)]), [(0, 5, 1), (2, 6, 1)])
        self.assertEqual(canonical([(0, 5), (1, 7)]), [(0, 5, 1), (1, 7, 1)])
        self.assertEqual(canonical([(0, 5), (2, 7)]), [(0, 5, 1), (2, 7, 1)])
        self.assertEqual(canonical([(0, 5), (1, 6), (2, 3), (3, 4), (4, 7)]), [(0, 5, 2), (2, 3, 2), (4, 7, 1)])

    def test_pairs_in_any_order(self):
        for table in TABLES:
            for pairs in itertools.permutations(table.items()):
                self.assertEqual(canonical(list(pairs)), pieces_of(table))

    def test_canonical_pieces_are_a_canonical_map(self):
        for table in TABLES:
            pieces = canonical(list(table.items()))
            self.assertIs(is_map(pieces), True, pieces)
            self.assertEqual(table_of(pieces), table)
            self.assertEqual(sorted(pairs_of(pieces)), sorted(table.items()))

    def test_maps(self):
        for pieces in ([], [(0, 0, 1)], [(3, 0, 5)], [(0, 4, 2), (2, 0, 4)], [(0, 1, 1), (1, 3, 1), (3, 2, 1)],
                       [(0, 0, 64)], [(0, 2, 1), (2, 3, 1)], [(0, 2, 1), (1, 5, 1)]):
            self.assertIs(is_map(pieces), True, pieces)

    def test_a_piece_without_an_address(self):
        for pieces in ([(0, 0, 0)], [(0, 3, -1)], [(0, 4, 2), (2, 0, 0)], [(0, 4, 2), (7, 0, 0), (8, 1, 1)],
                       [(0, 4, 2), (7, 0, -2), (8, 1, 1)]):
            self.assertIs(is_map(pieces), False, pieces)

    def test_pieces_in_another_order(self):
        for pieces in ([(4, 0, 1), (0, 4, 1)], [(0, 9, 1), (6, 0, 1), (3, 5, 2)], [(4, 4, 1), (0, 0, 1)]):
            self.assertIs(is_map(pieces), False, pieces)
            self.assertIs(is_map(sorted(pieces)), True, pieces)

    def test_an_address_that_is_a_source_twice(self):
        for pieces in ([(0, 0, 1), (0, 5, 1)], [(0, 0, 2), (1, 5, 1)], [(0, 0, 4), (1, 5, 1), (6, 8, 1)],
                       [(0, 0, 4), (1, 5, 1), (3, 8, 2)]):
            self.assertIs(is_map(pieces), False, pieces)

    def test_an_address_that_is_a_target_twice(self):
        for pieces in ([(0, 5, 1), (2, 5, 1)], [(0, 5, 2), (2, 6, 1)], [(0, 6, 1), (2, 5, 2)],
                       [(0, 5, 4), (6, 1, 1), (8, 6, 1)]):
            self.assertIs(is_map(pieces), False, pieces)

    def test_a_piece_that_continues_the_one_before_it(self):
        for pieces in ([(0, 5, 1), (1, 6, 1)], [(0, 5, 2), (2, 7, 3)], [(0, 9, 1), (1, 3, 2), (3, 5, 1)],
                       [(0, 0, 1), (1, 1, 1)]):
            self.assertIs(is_map(pieces), False, pieces)
            self.assertIs(is_map(canonical(pairs_of(pieces))), True, pieces)

    def test_all_lists_of_two_and_of_three_small_pieces(self):
        small = list(itertools.product(range(3), range(3), range(3)))
        for pieces in itertools.product(small, repeat=2):
            self.assertIs(is_map(list(pieces)), is_map_by_the_words(list(pieces)), pieces)
        small = list(itertools.product(range(4), range(3), [1, 2]))
        for pieces in itertools.product(small, repeat=3):
            self.assertIs(is_map(list(pieces)), is_map_by_the_words(list(pieces)), pieces)


class MapAddressTest(unittest.TestCase):
    def test_addresses(self):
        pieces = [(2, 7, 2), (5, 0, 1)]
        self.assertEqual([map_address(pieces, address) for address in range(-1, 8)],
                         [None, None, None, 7, 8, None, 0, None, None])
        self.assertIsNone(map_address([], 0))

    def test_all_small_maps(self):
        for table in TABLES:
            pieces = pieces_of(table)
            for address in range(-1, ADDRESSES + 2):
                self.assertEqual(map_address(pieces, address), table.get(address))


class RelocateWordsTest(unittest.TestCase):
    """Promise 14."""

    def test_words_are_moved(self):
        words = ["a", "b", "c", "d", "e"]
        self.assertEqual(relocate_words([], words), words)
        self.assertEqual(relocate_words([(0, 3, 2)], words), [None, None, "c", "a", "b"])
        self.assertEqual(relocate_words([(4, 0, 1)], words), ["e", "b", "c", "d", None])

    def test_a_source_that_is_a_target_too(self):
        words = ["a", "b", "c", "d", "e"]
        self.assertEqual(relocate_words([(0, 1, 3)], words), [None, "a", "b", "c", "e"])
        self.assertEqual(relocate_words([(1, 0, 3)], words), ["b", "c", "d", None, "e"])
        self.assertEqual(relocate_words([(0, 0, 5)], words), words)
        self.assertEqual(relocate_words([(0, 1, 1), (1, 4, 1)], words), [None, "a", "c", "d", "b"])

    def test_words_that_change_places(self):
        words = ["a", "b", "c", "d", "e"]
        self.assertEqual(relocate_words([(0, 2, 2), (2, 0, 2)], words), ["c", "d", "a", "b", "e"])
        self.assertEqual(relocate_words([(0, 1, 4), (4, 0, 1)], words), ["e", "a", "b", "c", "d"])

    def test_words_of_any_kind(self):
        self.assertEqual(relocate_words([(0, 1, 2)], [None, 0, "free"]), [None, None, 0])

    def test_all_small_maps(self):
        words = ["a", "b", "c", "d", "e"]
        for table in TABLES:
            back = {target: source for source, target in table.items()}
            expected = [words[back[at]] if at in back else None if at in table else words[at] for at in range(5)]
            self.assertEqual(relocate_words(pieces_of(table), words), expected, table)

    def test_addresses_that_are_no_index(self):
        for pieces, words, address in [
                ([(0, 1, 1)], [], 0), ([(3, 0, 1)], [1, 2, 3], 3), ([(0, 3, 1)], [1, 2, 3], 3),
                ([(-1, 0, 1)], [1, 2, 3], -1), ([(0, -1, 1)], [1, 2, 3], -1), ([(0, -2, 2)], [1, 2, 3], -2),
                ([(2, 0, 2)], [1, 2, 3], 3), ([(0, 2, 2)], [1, 2, 3], 3), ([(0, 1, 1), (2, 5, 1)], [1, 2, 3], 5)]:
            self.assert_leaves(pieces, words, address)

    def test_the_first_address_of_several(self):
        words = [1, 2, 3]
        self.assert_leaves([(7, 9, 1)], words, 7)
        self.assert_leaves([(0, 9, 1), (7, 1, 1)], words, 9)
        self.assert_leaves([(7, 1, 1), (8, 9, 1)], words, 7)
        self.assert_leaves([(2, 1, 3)], words, 3)
        self.assert_leaves([(1, 2, 3)], words, 3)
        self.assert_leaves([(2, 2, 2)], words, 3)
        self.assert_leaves([(0, 8, 2)], words, 8)
        self.assert_leaves([(-2, 5, 2)], words, -2)
        self.assert_leaves([(0, 5, 1), (1, 4, 1)], words, 5)

    def test_the_order_is_that_of_the_pairs(self):
        self.assert_leaves([(6, 1, 1), (4, 2, 1)], [1, 2, 3], 6)

    def assert_leaves(self, pieces, words, address):
        before = list(words)
        with self.assertRaises(MapLeaves) as caught:
            relocate_words(pieces, words)
        self.assertEqual(caught.exception.address, address, pieces)
        self.assertIsInstance(caught.exception, HeapgameError)
        self.assertEqual(words, before)


class FactsTest(unittest.TestCase):
    """Promise 15."""

    def test_maps_that_map_all_addresses_alike_are_equal(self):
        for table in TABLES:
            single = [(source, target, 1) for source, target in table.items()]
            self.assertEqual(canonical(pairs_of(single)), pieces_of(table))
            self.assertEqual(canonical(pairs_of(list(reversed(single)))), pieces_of(table))
            self.assertEqual(canonical(pairs_of(pieces_of(table))), pieces_of(table))

    def test_composing(self):
        self.assertEqual(compose_maps([(0, 4, 4)], [(5, 0, 2)]), [(1, 0, 2)])
        self.assertEqual(compose_maps([(0, 4, 4)], [(4, 4, 2), (6, 9, 2)]), [(0, 4, 2), (2, 9, 2)])
        self.assertEqual(compose_maps([(0, 4, 2), (2, 9, 2)], [(4, 4, 2), (9, 6, 2)]), [(0, 4, 4)])
        self.assertEqual(compose_maps([(0, 4, 1), (3, 2, 1)], [(2, 3, 1), (4, 0, 1)]), [(0, 0, 1), (3, 3, 1)])

    def test_composing_with_a_map_that_maps_nothing(self):
        for table in TABLES:
            self.assertEqual(compose_maps(pieces_of(table), []), [])
            self.assertEqual(compose_maps([], pieces_of(table)), [])
        self.assertEqual(compose_maps([(0, 4, 2)], [(0, 4, 2)]), [])

    def test_composing_maps_one_by_one(self):
        for first in TABLES[::3]:
            for second in TABLES[::2]:
                table = {source: second[target] for source, target in first.items() if target in second}
                self.assertEqual(compose_maps(pieces_of(first), pieces_of(second)), pieces_of(table))

    def test_three_maps_composed_in_both_ways(self):
        chosen = [pieces_of(table) for table in TABLES[::7]]
        for first, second, third in itertools.product(chosen, repeat=3):
            self.assertEqual(compose_maps(compose_maps(first, second), third),
                             compose_maps(first, compose_maps(second, third)))

    def test_turning_back(self):
        self.assertEqual(invert_map([]), [])
        self.assertEqual(invert_map([(0, 5, 3), (8, 1, 2)]), [(1, 8, 2), (5, 0, 3)])
        self.assertEqual(invert_map([(0, 5, 1), (1, 4, 1), (2, 6, 1)]), [(4, 1, 1), (5, 0, 1), (6, 2, 1)])

    def test_a_map_turned_back_maps_exactly_the_images_back(self):
        for table in TABLES:
            back = invert_map(pieces_of(table))
            self.assertEqual(back, pieces_of({target: source for source, target in table.items()}))
            self.assertEqual(invert_map(back), pieces_of(table))
            same = {source: source for source in table}
            self.assertEqual(compose_maps(pieces_of(table), back), pieces_of(same))

    def test_what_is_not_canonical_is_composed_and_turned_back_canonical(self):
        pieces = [(1, 6, 1), (0, 5, 1)]
        self.assertEqual(invert_map(pieces), [(5, 0, 2)])
        self.assertEqual(compose_maps(pieces, [(6, 3, 1), (5, 2, 1)]), [(0, 2, 2)])


class RelocationMapTest(unittest.TestCase):
    """Promise 16."""

    def test_moved_and_unmoved_blocks(self):
        self.assertEqual(relocation_map(8, [], []), [])
        self.assertEqual(relocation_map(8, [(1, 2)], [5]), [(1, 5, 2)])
        self.assertEqual(relocation_map(8, [(1, 2)], [1]), [(1, 1, 2)])
        self.assertEqual(relocation_map(8, [(1, 2), (4, 1)], [1, 0]), [(1, 1, 2), (4, 0, 1)])

    def test_blocks_side_by_side(self):
        self.assertEqual(relocation_map(8, [(1, 2), (3, 1)], [1, 3]), [(1, 1, 3)])
        self.assertEqual(relocation_map(8, [(1, 2), (3, 1)], [4, 6]), [(1, 4, 3)])
        self.assertEqual(relocation_map(8, [(1, 2), (3, 1)], [1, 5]), [(1, 1, 2), (3, 5, 1)])
        self.assertEqual(relocation_map(8, [(1, 2), (3, 1)], [2, 1]), [(1, 2, 2), (3, 1, 1)])
        self.assertEqual(relocation_map(8, [(0, 2), (3, 1), (4, 2)], [0, 2, 4]), [(0, 0, 2), (3, 2, 1), (4, 4, 2)])
        self.assertEqual(relocation_map(8, [(0, 2), (3, 1), (4, 2)], [0, 2, 3]), [(0, 0, 2), (3, 2, 3)])

    def test_all_relocations_of_small_layouts(self):
        for layout in samples.block_lists(4):
            for starts in samples.all_relocations(4, layout):
                blocks = samples.moved_blocks(layout, starts)
                table = dict(zip(samples.cells_of(layout), samples.cells_of(blocks)))
                pieces = relocation_map(4, layout, starts)
                self.assertEqual(pieces, pieces_of(table))
                self.assertIs(is_map(pieces), True)


class ListsTest(unittest.TestCase):
    """Promise 3."""

    def check(self, call, *lists):
        before = copy.deepcopy(lists)
        first = call(*lists)
        again = list(first)
        self.assertIsInstance(first, list)
        self.assertEqual(lists, before)
        first.append("changed")
        self.assertEqual(lists, before)
        self.assertEqual(call(*lists), again)

    def test_lists_stay_and_new_ones_are_returned(self):
        for pieces in ([], [(0, 2, 2), (2, 1, 1)], [(2, 1, 1), (0, 2, 2)]):
            self.check(pairs_of, pieces)
            self.check(canonical, pairs_of(pieces))
            self.check(invert_map, pieces)
            self.check(compose_maps, pieces, [(1, 4, 2)])
            self.check(compose_maps, [(1, 2, 1)], pieces)
            self.check(relocate_words, pieces, ["a", "b", "c", "d"])
            before = list(pieces)
            is_map(pieces)
            map_address(pieces, 1)
            self.assertEqual(pieces, before)
        self.check(lambda layout, starts: relocation_map(6, layout, starts), [(0, 1), (3, 2)], [2, 0])


if __name__ == "__main__":
    unittest.main()
