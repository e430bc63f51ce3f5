"""Layouts, gaps, texts and contracts: promises 4 to 7, and 3 over them."""

import copy
import inspect
import itertools
import math
import unittest

import samples

from heapgame import layouts
from heapgame.errors import HeapgameError, TextError
from heapgame.layouts import (
    Contract, fits, format_layout, gaps, is_layout, live_cells, lowest_terms, measure, parse_layout, with_block,
    without)

INTERFACE = {
    "Contract": ["size", "limit", "lengths", "budget"],
    "is_layout": ["size", "layout"],
    "live_cells": ["layout"],
    "gaps": ["size", "layout"],
    "fits": ["size", "layout", "start", "length"],
    "with_block": ["layout", "start", "length"],
    "without": ["layout", "index"],
    "measure": ["size", "layout"],
    "lowest_terms": ["numerator", "denominator"],
    "format_layout": ["size", "layout"],
    "parse_layout": ["text"],
}
ALPHABET = "abcdefghijklmnopqrstuvwxyz"
SIZE = 6
LAYOUTS = samples.block_lists(SIZE)
FULL = [(cell, 1) for cell in range(64)]


class InterfaceTest(unittest.TestCase):
    def test_names_and_arguments(self):
        for name, arguments in INTERFACE.items():
            found = getattr(layouts, name)
            self.assertEqual(list(inspect.signature(found).parameters), arguments, name)
            self.assertEqual(found.__module__, "heapgame.layouts")


class IsLayoutTest(unittest.TestCase):
    """Promise 4."""

    def test_layouts(self):
        for layout in ([], [(0, 6)], [(0, 1), (1, 1)], [(0, 2), (2, 4)], [(1, 2), (4, 1)], [(5, 1)]):
            self.assertIs(is_layout(6, layout), True, layout)

    def test_lengths_of_no_cell(self):
        for layout in ([(0, 0)], [(2, 0)], [(6, 0)], [(2, -1)], [(0, 1), (1, 0)], [(0, 1), (1, 0), (1, 2)],
                       [(4, -2), (5, 1)], [(3, 2), (5, -2)]):
            self.assertIs(is_layout(6, layout), False, layout)

    def test_blocks_beyond_the_end(self):
        for layout in ([(0, 7)], [(5, 2)], [(6, 1)], [(7, 1)], [(0, 1), (5, 2)], [(0, 3), (3, 4)]):
            self.assertIs(is_layout(6, layout), False, layout)

    def test_blocks_that_overlap(self):
        for layout in ([(0, 2), (1, 2)], [(0, 6), (2, 1)], [(1, 1), (1, 1)], [(1, 1), (1, 2)], [(0, 1), (1, 3), (3, 1)]):
            self.assertIs(is_layout(6, layout), False, layout)

    def test_blocks_in_another_order(self):
        for layout in ([(1, 1), (0, 1)], [(4, 2), (0, 2)], [(0, 1), (4, 1), (2, 1)]):
            self.assertIs(is_layout(6, layout), False, layout)

    def test_the_smallest_and_the_greatest_heap(self):
        self.assertIs(is_layout(1, []), True)
        self.assertIs(is_layout(1, [(0, 1)]), True)
        self.assertIs(is_layout(1, [(0, 2)]), False)
        self.assertIs(is_layout(1, [(1, 1)]), False)
        self.assertIs(is_layout(64, [(0, 64)]), True)
        self.assertIs(is_layout(64, FULL), True)
        self.assertIs(is_layout(64, [(63, 1)]), True)
        self.assertIs(is_layout(64, [(63, 2)]), False)
        self.assertIs(is_layout(64, [(64, 1)]), False)

    def test_somewhat_greater_heaps_raise_nothing(self):
        self.assertIs(is_layout(70, [(64, 6)]), True)
        self.assertIs(is_layout(70, [(64, 7)]), False)

    def test_all_lists_of_two_or_three_blocks(self):
        blocks = list(itertools.product(range(5), range(-1, 5)))
        good = samples.block_lists(4)
        for many in (1, 2):
            for layout in itertools.product(blocks, repeat=many):
                self.assertIs(is_layout(4, list(layout)), list(layout) in good, layout)
        small = list(itertools.product(range(4), range(3)))
        good = samples.block_lists(3)
        for layout in itertools.product(small, repeat=3):
            self.assertIs(is_layout(3, list(layout)), list(layout) in good, layout)


class BlocksTest(unittest.TestCase):
    """Promise 4, for a new block and for a block that goes."""

    def test_fits_at_each_start_from_before_the_heap_to_its_size(self):
        for layout in LAYOUTS:
            for length in range(1, SIZE + 2):
                found = [start for start in range(-1, SIZE + 1) if fits(SIZE, layout, start, length)]
                self.assertEqual(found, samples.starts_that_fit(SIZE, layout, length), (layout, length))

    def test_fits_returns_true_or_false(self):
        self.assertIs(fits(4, [(0, 1)], 1, 3), True)
        self.assertIs(fits(4, [(0, 1)], 1, 4), False)
        self.assertIs(fits(4, [(0, 1)], 0, 1), False)
        self.assertIs(fits(4, [], -1, 1), False)
        self.assertIs(fits(4, [], -1, 5), False)
        self.assertIs(fits(4, [], 4, 1), False)

    def test_a_block_without_cells_fits_nowhere(self):
        for start in range(-1, 5):
            self.assertIs(fits(4, [(1, 2)], start, 0), False)
            self.assertIs(fits(4, [(1, 2)], start, -1), False)

    def test_with_block_at_each_place(self):
        self.assertEqual(with_block([], 3, 2), [(3, 2)])
        self.assertEqual(with_block([(2, 1)], 0, 2), [(0, 2), (2, 1)])
        self.assertEqual(with_block([(0, 1), (4, 1)], 1, 3), [(0, 1), (1, 3), (4, 1)])
        self.assertEqual(with_block([(0, 1), (4, 1)], 5, 1), [(0, 1), (4, 1), (5, 1)])

    def test_without_undoes_with_block(self):
        for layout in LAYOUTS:
            for index, (start, length) in enumerate(layout):
                rest = without(layout, index)
                self.assertEqual(rest, [block for block in layout if block != (start, length)])
                self.assertEqual(with_block(rest, start, length), layout)


class GapsTest(unittest.TestCase):
    """Promise 5."""

    def test_gaps_of_all_layouts(self):
        for layout in LAYOUTS:
            self.assertEqual(gaps(SIZE, layout), samples.free_rows(SIZE, layout), layout)

    def test_ordinary_gaps(self):
        self.assertEqual(gaps(8, []), [(0, 8)])
        self.assertEqual(gaps(8, [(0, 8)]), [])
        self.assertEqual(gaps(8, [(0, 3), (3, 5)]), [])
        self.assertEqual(gaps(8, [(2, 1), (3, 2)]), [(0, 2), (5, 3)])
        self.assertEqual(gaps(8, [(0, 2), (6, 2)]), [(2, 4)])
        self.assertEqual(gaps(8, [(2, 1), (5, 1)]), [(0, 2), (3, 2), (6, 2)])
        self.assertEqual(gaps(1, []), [(0, 1)])
        self.assertEqual(gaps(64, FULL[:63]), [(63, 1)])

    def test_live_cells(self):
        self.assertEqual(live_cells([]), 0)
        self.assertEqual(live_cells([(0, 3), (3, 1), (9, 2)]), 6)
        self.assertEqual(live_cells(FULL), 64)
        for layout in LAYOUTS:
            self.assertEqual(live_cells(layout), len(samples.cells_of(layout)))

    def test_measure_without_blocks(self):
        self.assertEqual(measure(8, []), (0, 8, 8, 1, (0, 1)))
        self.assertEqual(measure(1, []), (0, 1, 1, 1, (0, 1)))
        self.assertEqual(measure(64, []), (0, 64, 64, 1, (0, 1)))

    def test_measure_without_free_cells(self):
        self.assertEqual(measure(8, [(0, 8)]), (8, 0, 0, 0, None))
        self.assertEqual(measure(8, [(0, 5), (5, 3)]), (8, 0, 0, 0, None))
        self.assertEqual(measure(64, FULL), (64, 0, 0, 0, None))

    def test_measure_with_one_gap(self):
        self.assertEqual(measure(8, [(0, 2), (6, 2)]), (4, 4, 4, 1, (0, 1)))
        self.assertEqual(measure(8, [(1, 7)]), (7, 1, 1, 1, (0, 1)))

    def test_measure_with_several_gaps(self):
        self.assertEqual(measure(8, [(2, 1), (5, 1)]), (2, 6, 2, 3, (2, 3)))
        self.assertEqual(measure(8, [(1, 6)]), (6, 2, 1, 2, (1, 2)))
        self.assertEqual(measure(9, [(1, 1), (3, 1), (8, 1)]), (3, 6, 4, 3, (1, 3)))
        self.assertEqual(measure(12, [(1, 1), (10, 1)]), (2, 10, 8, 3, (1, 5)))

    def test_measure_of_all_layouts(self):
        for layout in LAYOUTS:
            rows = [cells for start, cells in samples.free_rows(SIZE, layout)]
            live, free, greatest, many, fragmentation = measure(SIZE, layout)
            self.assertEqual((live, free), (SIZE - sum(rows), sum(rows)))
            self.assertEqual((greatest, many), (max(rows, default=0), len(rows)))
            if not rows:
                self.assertIsNone(fragmentation)
                continue
            over, under = fragmentation
            self.assertEqual(over * free, (free - greatest) * under)
            self.assertEqual(math.gcd(over, under), 1)

    def test_lowest_terms(self):
        self.assertEqual(lowest_terms(0, 1), (0, 1))
        self.assertEqual(lowest_terms(0, 64), (0, 1))
        self.assertEqual(lowest_terms(6, 4), (3, 2))
        self.assertEqual(lowest_terms(4, 2), (2, 1))
        self.assertEqual(lowest_terms(7, 7), (1, 1))
        self.assertEqual(lowest_terms(35, 64), (35, 64))
        for over, under in itertools.product(range(13), range(1, 13)):
            low, high = lowest_terms(over, under)
            self.assertEqual(low * under, over * high)
            self.assertEqual(math.gcd(low, high), 1)
            self.assertGreaterEqual(high, 1)


class TextTest(unittest.TestCase):
    """Promise 6."""

    def assert_fault(self, text, place):
        with self.assertRaises(TextError, msg=text) as caught:
            parse_layout(text)
        self.assertEqual(caught.exception.place, place, text)

    def test_ordinary_texts(self):
        for size, layout, text in (
                (1, [], "."), (1, [(0, 1)], "a"), (5, [], "....."), (5, [(0, 5)], "aaaaa"),
                (5, [(1, 2), (4, 1)], ".aa.b"), (6, [(0, 2), (2, 1), (3, 3)], "aabccc"),
                (64, [], "." * 64), (64, [(63, 1)], "." * 63 + "a")):
            self.assertEqual(format_layout(size, layout), text)
            self.assertEqual(parse_layout(text), (size, layout))

    def test_all_layouts_are_read_back(self):
        texts = {format_layout(SIZE, layout) for layout in LAYOUTS}
        self.assertEqual(len(texts), len(LAYOUTS))
        for layout in LAYOUTS:
            text = format_layout(SIZE, layout)
            self.assertEqual(len(text), SIZE)
            self.assertEqual(parse_layout(text), (SIZE, layout))

    def test_26_blocks(self):
        side_by_side = FULL[:26]
        self.assertEqual(format_layout(26, side_by_side), ALPHABET)
        self.assertEqual(parse_layout(ALPHABET), (26, side_by_side))
        apart = [(2 * block + 1, 1) for block in range(26)]
        text = "." + ".".join(ALPHABET) + "." * 12
        self.assertEqual(format_layout(64, apart), text)
        self.assertEqual(parse_layout(text), (64, apart))
        double = [(2 * block, 2) for block in range(26)]
        self.assertEqual(parse_layout(format_layout(64, double)), (64, double))

    def test_no_letter_fits_behind_the_last_one(self):
        self.assertEqual(parse_layout(ALPHABET + "zz."), (29, FULL[:25] + [(25, 3)]))
        for character in "aby{A`":
            self.assert_fault(ALPHABET + character, 26)
            self.assert_fault(ALPHABET + "zz." + character, 29)
        self.assert_fault(ALPHABET + ".z", 27)

    def test_characters_that_are_neither_a_point_nor_a_small_letter(self):
        for character in ("A", "B", "0", "1", " ", ",", "-", "_", "{", "`", "\n", "\t", "\0", "\u00e4", "\u0430", "\uff41"):
            self.assert_fault(character, 0)
            self.assert_fault("." + character, 1)
            self.assert_fault(".a" + character + "b.", 2)
            self.assert_fault("aab." + character, 4)

    def test_letters_that_do_not_fit(self):
        self.assert_fault("b", 0)
        self.assert_fault("..c", 2)
        self.assert_fault("a.a", 2)
        self.assert_fault("aba", 2)
        self.assert_fault("ab.b", 3)
        self.assert_fault("ac", 1)
        self.assert_fault("aac", 2)
        self.assert_fault("ab.d", 3)
        self.assert_fault("z", 0)

    def test_only_the_first_fault_is_told(self):
        self.assert_fault("a.ab?", 2)
        self.assert_fault("?b?", 0)

    def test_all_short_texts(self):
        """A text is one up to the fault, and not with the fault."""
        for size in range(1, 6):
            for characters in itertools.product(".abcA", repeat=size):
                text = "".join(characters)
                good = [text[:end] in TEXTS[end] for end in range(1, size + 1)]
                if all(good):
                    self.assertEqual(parse_layout(text)[0], size)
                    self.assertEqual(format_layout(*parse_layout(text)), text)
                else:
                    self.assert_fault(text, good.index(False))

    def test_texts_with_a_character_put_in_left_out_or_changed(self):
        text = ".aab.c..dd"
        for place in range(len(text)):
            for character in ".abcdez?":
                self.check_changed(text[:place] + character + text[place:])
                self.check_changed(text[:place] + character + text[place + 1:])
            self.check_changed(text[:place] + text[place + 1:])

    def check_changed(self, text):
        fault = fault_by_lines(text)
        if fault is None:
            self.assertEqual(format_layout(*parse_layout(text)), text)
        else:
            self.assert_fault(text, fault)

    def test_what_was_put_in_left_out_or_changed_is_told(self):
        self.assert_fault(".aa.ab.c", 4)
        self.assert_fault(".aa..c", 5)
        self.assert_fault(".aaab.b", 6)
        self.assert_fault(".aa.B.c", 4)
        self.assert_fault(".a.ab.c", 3)

    def test_somewhat_greater_texts_and_layouts_raise_no_other_error(self):
        self.assertEqual(parse_layout("." * 70 + "a"), (71, [(70, 1)]))
        self.assertEqual(format_layout(70, [(66, 2)]), "." * 66 + "aa..")
        self.assertEqual(parse_layout(""), (0, []))
        text = format_layout(64, FULL)
        self.assertEqual(len(text), 64)
        self.assertEqual(text[:26], ALPHABET)

    def test_a_fault_is_an_error_of_the_package(self):
        with self.assertRaises(HeapgameError):
            parse_layout("b")


def texts_of(size):
    """The texts of all layouts of this size, written without the program."""
    found = set()
    for layout in samples.block_lists(size):
        cells = ["."] * size
        for index, block in enumerate(layout):
            for cell in samples.cells_of([block]):
                cells[cell] = ALPHABET[index]
        found.add("".join(cells))
    return found


TEXTS = {size: texts_of(size) for size in range(1, 6)}


def fault_by_lines(text):
    """The place of the first character that does not fit, told from the text before it alone."""
    for place, character in enumerate(text):
        before = text[:place]
        letters = len(set(before) - {"."})
        stays = before != "" and character == before[-1] != "."
        if character != "." and not stays and character != ALPHABET[letters]:
            return place
    return None


class ContractTest(unittest.TestCase):
    """Promise 7."""

    def test_fields(self):
        contract = Contract(8, 6, [1, 2, 4], 2)
        self.assertEqual((contract.size, contract.limit, contract.lengths, contract.budget), (8, 6, [1, 2, 4], 2))
        contract = Contract(size=1, limit=0, lengths=[8], budget=0)
        self.assertEqual((contract.size, contract.limit, contract.lengths, contract.budget), (1, 0, [8], 0))

    def test_lengths_is_a_new_list(self):
        lengths = [1, 3]
        contract = Contract(8, 6, lengths, 1)
        other = Contract(8, 6, lengths, 1)
        self.assertIsInstance(contract.lengths, list)
        lengths.append(5)
        self.assertEqual(contract.lengths, [1, 3])
        contract.lengths.append(7)
        self.assertEqual(lengths, [1, 3, 5])
        self.assertEqual(other.lengths, [1, 3])

    def test_somewhat_beyond_the_limits_nothing_is_raised(self):
        contract = Contract(9, 10, [1, 2, 3, 9], 3)
        self.assertEqual((contract.size, contract.limit, contract.lengths, contract.budget), (9, 10, [1, 2, 3, 9], 3))


class ListsTest(unittest.TestCase):
    """Promise 3."""

    def test_no_list_that_is_passed_in_is_changed(self):
        for layout in LAYOUTS:
            before = copy.deepcopy(layout)
            is_layout(SIZE, layout)
            live_cells(layout)
            gaps(SIZE, layout)
            measure(SIZE, layout)
            format_layout(SIZE, layout)
            for start in samples.starts_that_fit(SIZE, layout, 1):
                self.assertIs(fits(SIZE, layout, start, 1), True)
                with_block(layout, start, 1)
            for index in range(len(layout)):
                without(layout, index)
            self.assertEqual(layout, before)

    def test_lists_that_are_no_layouts_are_not_changed_either(self):
        for layout in ([(4, 1), (0, 1)], [(0, 0)], [(0, 2), (1, 2)]):
            before = list(layout)
            is_layout(5, layout)
            self.assertEqual(layout, before)

    def test_each_list_that_is_returned_is_a_new_one(self):
        for layout in LAYOUTS:
            calls = [lambda: gaps(SIZE, layout), lambda: parse_layout(format_layout(SIZE, layout))[1]]
            if samples.starts_that_fit(SIZE, layout, 1):
                calls.append(lambda: with_block(layout, samples.starts_that_fit(SIZE, layout, 1)[0], 1))
            if layout:
                calls.append(lambda: without(layout, 0))
            for call in calls:
                self.assert_new(call, layout)

    def assert_new(self, call, layout):
        before = list(layout)
        first = call()
        again = list(first)
        self.assertIsInstance(first, list)
        first.append("changed")
        self.assertEqual(layout, before)
        self.assertEqual(call(), again)


if __name__ == "__main__":
    unittest.main()
