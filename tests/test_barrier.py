"""Sliding under a running program: promises 52 and 53, and 3 over them."""

import copy
import inspect
import itertools
import random
import time
import unittest

import samples

from heapgame import barrier
from heapgame.barrier import Slider, slider_of
from heapgame.errors import HeapgameError, NoSuchField, NoSuchObject
from heapgame.heap import policy_heap

INTERFACE = {
    "Slider": ["size", "blocks"],
    "slider_of": ["heap"],
}
METHODS = {
    "read": ["number", "index"],
    "write": ["number", "index", "value"],
    "step": [],
    "work": ["steps"],
    "layout": [],
}
FREE = "free"


def to(number):
    return ("object", number)


def blocks_of(layout):
    """Objects with numbers that are not in the order of the starts, and with fields that are told apart."""
    return [((index * 7 + 3) % 11 + 11 * (index // 11), start, [100 * (index + 1) + at for at in range(length)])
            for index, (start, length) in list(enumerate(layout))[::-1]]


def steps_needed(layout):
    """The cells of the blocks that are not where the compaction puts them."""
    goals = [sum(length for _, length in layout[:index]) for index in range(len(layout))]
    return samples.cells_moved(layout, goals)


def states_of(size, blocks):
    """The words, the starts and the layout at first and behind each step, told by promise 52, if nobody writes."""
    words = [FREE] * size
    starts = {number: start for number, start, _ in blocks}
    rows = sorted((start, number, fields) for number, start, fields in blocks)
    for start, _, fields in rows:
        for at, value in enumerate(fields):
            words[start + at] = value
    layout = [(start, len(fields)) for start, _, fields in rows]
    yield list(words), dict(starts), list(layout)
    end = 0
    for index, (start, number, fields) in enumerate(rows):
        if start != end:
            for at, value in enumerate(fields):
                words[end + at] = value
                if at == len(fields) - 1:
                    for cell in set(range(start, start + len(fields))) - set(range(end, end + len(fields))):
                        words[cell] = FREE
                    starts[number] = end
                    layout[index] = (end, len(fields))
                yield list(words), dict(starts), list(layout)
        end += len(fields)


class SliderTest(unittest.TestCase):
    def assert_raises(self, call, expected, told):
        with self.assertRaises(expected) as caught:
            call()
        self.assertEqual(vars(caught.exception), told)
        self.assertIsInstance(caught.exception, HeapgameError)

    def reads(self, slider, blocks):
        return {number: [slider.read(number, index) for index in range(len(fields))] for number, _, fields in blocks}


class InterfaceTest(unittest.TestCase):
    def test_names_and_arguments(self):
        for name, arguments in INTERFACE.items():
            found = getattr(barrier, name)
            self.assertEqual(list(inspect.signature(found).parameters), arguments, name)
            self.assertEqual(found.__module__, "heapgame.barrier")
        for name, arguments in METHODS.items():
            self.assertEqual(list(inspect.signature(vars(Slider)[name]).parameters)[1:], arguments, name)

    def test_fields_are_set_at_once(self):
        slider = Slider(5, [(4, 1, [7, None]), (0, 3, [to(4)])])
        self.assertEqual(slider.words, [FREE, 7, None, to(4), FREE])
        self.assertEqual(slider.starts, {4: 1, 0: 3})


class StepsTest(SliderTest):
    """Promise 52."""

    def test_no_block_can_be_chosen(self):
        for blocks in ([], [(0, 0, [1])], [(3, 0, [1, 2]), (1, 2, [3])]):
            slider = Slider(4, blocks)
            before = (list(slider.words), dict(slider.starts), slider.layout())
            self.assertIs(slider.step(), False)
            self.assertEqual(slider.work(5), 0)
            self.assertEqual((slider.words, slider.starts, slider.layout()), before)

    def test_a_move_without_common_cells(self):
        slider = Slider(6, [(2, 3, [10, 11])])
        self.assertIs(slider.step(), True)
        self.assertEqual(slider.words, [10, FREE, FREE, 10, 11, FREE])
        self.assertEqual((slider.starts, slider.layout()), ({2: 3}, [(3, 2)]))
        self.assertIs(slider.step(), True)
        self.assertEqual(slider.words, [10, 11, FREE, FREE, FREE, FREE])
        self.assertEqual((slider.starts, slider.layout()), ({2: 0}, [(0, 2)]))
        self.assertIs(slider.step(), False)

    def test_a_move_to_cells_of_its_own(self):
        slider = Slider(5, [(0, 1, [10, 11, 12])])
        rows = [[10, 10, 11, 12, FREE], [10, 11, 11, 12, FREE], [10, 11, 12, FREE, FREE]]
        for row, start in zip(rows, (1, 1, 0)):
            self.assertIs(slider.step(), True)
            self.assertEqual((slider.words, slider.starts, slider.layout()), (row, {0: start}, [(start, 3)]))

    def test_several_blocks_one_behind_the_other(self):
        slider = Slider(9, [(5, 0, [1]), (6, 2, [2, 3]), (7, 6, [4, 5])])
        layouts = []
        while slider.step():
            layouts.append(slider.layout())
        self.assertEqual(layouts, [[(0, 1), (2, 2), (6, 2)], [(0, 1), (1, 2), (6, 2)],
                                   [(0, 1), (1, 2), (6, 2)], [(0, 1), (1, 2), (3, 2)]])
        self.assertEqual(slider.words, [1, 2, 3, 4, 5] + [FREE] * 4)
        self.assertEqual(slider.starts, {5: 0, 6: 1, 7: 3})

    def test_all_steps_of_all_small_layouts(self):
        for layout in samples.block_lists(6):
            blocks = blocks_of(layout)
            slider = Slider(6, blocks)
            states = list(states_of(6, blocks))
            self.assertEqual(len(states) - 1, steps_needed(layout))
            for turn, (words, starts, lies) in enumerate(states):
                self.assertEqual((slider.words, slider.starts, slider.layout()), (words, starts, lies), (layout, turn))
                self.assertEqual(self.reads(slider, blocks), {number: fields for number, _, fields in blocks})
                self.assertIs(slider.step(), turn < len(states) - 1)
            self.assertEqual((slider.words, slider.starts, slider.layout()), states[-1])

    def test_work(self):
        for layout in samples.block_lists(5):
            needed = steps_needed(layout)
            states = list(states_of(5, blocks_of(layout)))
            for steps in range(-1, needed + 3):
                slider = Slider(5, blocks_of(layout))
                made = slider.work(steps)
                self.assertEqual(made, max(0, min(steps, needed)))
                self.assertEqual((slider.words, slider.starts, slider.layout()), states[made])
                self.assertEqual(slider.work(10 ** 30), needed - made)
                self.assertEqual((slider.words, slider.starts, slider.layout()), states[-1])


class FieldsTest(SliderTest):
    """Promises 52 and 53."""

    def test_reads_and_writes_of_the_object_that_is_moved(self):
        slider = Slider(5, [(0, 1, [10, 11, 12])])
        slider.step()
        self.assertIsNone(slider.write(0, 0, 20))
        self.assertEqual(slider.words, [20, 10, 11, 12, FREE])
        slider.write(0, 1, 21)
        self.assertEqual(slider.words, [20, 10, 21, 12, FREE])
        slider.step()
        self.assertEqual(slider.words, [20, 21, 21, 12, FREE])
        slider.write(0, 1, 31)
        slider.write(0, 2, 32)
        self.assertEqual(slider.words, [20, 31, 21, 32, FREE])
        self.assertEqual([slider.read(0, index) for index in range(3)], [20, 31, 32])
        slider.step()
        self.assertEqual(slider.words, [20, 31, 32, FREE, FREE])

    def test_reads_and_writes_of_other_objects_meanwhile(self):
        slider = Slider(8, [(0, 0, [1]), (1, 2, [2, 3]), (2, 6, [4, 5])])
        slider.step()
        slider.write(0, 0, to(2))
        slider.write(2, 1, None)
        self.assertEqual(slider.words, [to(2), 2, 2, 3, FREE, FREE, 4, None])
        slider.work(2)
        self.assertEqual(slider.words, [to(2), 2, 3, 4, FREE, FREE, 4, None])
        slider.write(2, 0, 9)
        slider.write(1, 1, 8)
        self.assertEqual(slider.words, [to(2), 2, 8, 9, FREE, FREE, 4, None])

    def test_what_is_written_is_not_checked(self):
        slider = Slider(4, [(0, 1, [1, 2])])
        for value in (to(7), to(0), None, 0, 70000, -1):
            self.assertIsNone(slider.write(0, 1, value))
            self.assertEqual(slider.read(0, 1), value)

    def test_each_read_tells_what_was_last_written(self):
        for layout in samples.block_lists(5):
            for writing in range(steps_needed(layout) + 1):
                blocks = blocks_of(layout)
                for number, _, fields in blocks:
                    for index in range(len(fields)):
                        self.check_a_write(layout, blocks, writing, number, index)

    def check_a_write(self, layout, blocks, writing, number, index):
        """Write one field behind so many steps; all fields are read behind that and behind each later step."""
        slider = Slider(5, blocks)
        expected = {other: list(fields) for other, _, fields in blocks}
        self.assertEqual(slider.work(writing), writing)
        slider.write(number, index, 7)
        expected[number][index] = 7
        self.assertEqual(self.reads(slider, blocks), expected)
        while slider.step():
            self.assertEqual(self.reads(slider, blocks), expected)
        self.assertEqual(self.reads(slider, blocks), expected)
        self.assertEqual(slider.words[:len(samples.cells_of(layout))],
                         [value for other, _, _ in blocks[::-1] for value in expected[other]])
        self.assertEqual(set(slider.words[len(samples.cells_of(layout)):]) - {FREE}, set())

    def test_runs_of_steps_reads_and_writes_in_any_order(self):
        for seed in range(60):
            chance = random.Random(seed)
            layout = chance.choice(samples.block_lists(8))
            blocks = blocks_of(layout)
            slider = Slider(8, blocks)
            expected = {number: list(fields) for number, _, fields in blocks}
            made = 0
            for turn in range(40):
                if not blocks or chance.random() < 0.4:
                    made += slider.step()
                    continue
                number = chance.choice(list(expected))
                index = chance.randrange(len(expected[number]))
                if chance.random() < 0.5:
                    expected[number][index] = turn
                    slider.write(number, index, turn)
                self.assertEqual(slider.read(number, index), expected[number][index])
            made += slider.work(100)
            self.assertEqual(made, steps_needed(layout))
            self.assertEqual(self.reads(slider, blocks), expected)

    def test_errors_in_their_order(self):
        slider = Slider(6, [(1, 1, [5, 6]), (4, 4, [7])])
        for _ in range(5):
            before = (list(slider.words), dict(slider.starts), slider.layout())
            for number, index in ((0, 0), (-1, 0), (2, 9), (5, -1)):
                self.assert_raises(lambda: slider.read(number, index), NoSuchObject, {"number": number})
                self.assert_raises(lambda: slider.write(number, index, 1), NoSuchObject, {"number": number})
            for number, index in ((1, 2), (1, -1), (4, 1), (4, -1), (1, 100)):
                self.assert_raises(lambda: slider.read(number, index), NoSuchField, {"index": index})
                self.assert_raises(lambda: slider.write(number, index, to(9)), NoSuchField, {"index": index})
            self.assertEqual((slider.words, slider.starts, slider.layout()), before)
            slider.step()


class SliderOfTest(SliderTest):
    """Promise 52: the slider of a managed heap."""

    def heap(self):
        heap = policy_heap(10, "first")
        for length in (1, 2, 1, 2):
            heap.allocate(length)
        heap.write(1, 0, to(3))
        heap.write(3, 1, to(1))
        heap.write(3, 0, 65535)
        heap.add_root(1)
        heap.release(0)
        heap.release(2)
        return heap

    def test_references_are_numbers_of_objects(self):
        slider = slider_of(self.heap())
        self.assertEqual(slider.words, [FREE, to(3), None, FREE, 65535, to(1)] + [FREE] * 4)
        self.assertEqual((slider.starts, slider.layout()), ({1: 1, 3: 4}, [(1, 2), (4, 2)]))

    def test_it_ends_where_the_compaction_of_the_heap_does(self):
        heap = self.heap()
        slider = slider_of(heap)
        self.assertEqual(slider.work(100), 4)
        heap.compact()
        self.assertEqual(slider.layout(), heap.layout())
        self.assertEqual(slider.starts, heap.state.starts)
        self.assertEqual(slider.words, slider_of(heap).words)

    def test_the_heap_and_the_slider_do_not_change_each_other(self):
        heap = self.heap()
        slider = slider_of(heap)
        words, log = heap.words(), heap.log()
        slider.write(1, 1, 9)
        slider.work(100)
        self.assertEqual((heap.words(), heap.log(), heap.read(1, 1)), (words, log, None))
        heap.write(3, 0, 4)
        heap.compact()
        self.assertEqual(slider.read(3, 0), 65535)

    def test_an_empty_heap(self):
        slider = slider_of(policy_heap(3, "next"))
        self.assertEqual((slider.words, slider.starts, slider.layout()), ([FREE] * 3, {}, []))
        self.assertIs(slider.step(), False)


class ListsTest(SliderTest):
    """Promise 3."""

    def test_lists_that_are_passed_in_stay(self):
        blocks = [(3, 4, [1, to(3)]), (0, 1, [5])]
        before = copy.deepcopy(blocks)
        slider = Slider(6, blocks)
        slider.write(3, 0, 8)
        slider.work(2)
        slider.write(3, 1, 9)
        slider.work(2)
        self.assertEqual(blocks, before)
        blocks[1][2][0] = 6
        self.assertEqual(slider.read(0, 0), 5)

    def test_each_list_that_is_returned_is_a_new_one(self):
        slider = Slider(6, [(3, 4, [1, 2])])
        slider.layout().append("changed")
        self.assertEqual(slider.layout(), [(4, 2)])


class TimeTest(unittest.TestCase):
    def test_heaps_of_64_cells_take_seconds(self):
        before = time.process_time()
        for layout in ([(63, 1)], [(1, 63)], [(start, 1) for start in range(1, 64)],
                       [(start, 1) for start in range(1, 64, 2)]):
            slider = Slider(64, blocks_of(layout))
            self.assertEqual(slider.work(10 ** 9), steps_needed(layout))
            self.assertEqual([start for start, _ in slider.layout()],
                             list(itertools.accumulate([0] + [length for _, length in layout[:-1]])))
        self.assertLess(time.process_time() - before, 5)


if __name__ == "__main__":
    unittest.main()
