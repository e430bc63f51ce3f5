"""Tagged memory: promises 22 to 25, and 3 over them."""

import inspect
import itertools
import random
import unittest

from heapgame import tagged
from heapgame.errors import HeapgameError, NoSuchField, NoSuchObject, OutOfMemory
from heapgame.tagged import Tagged

METHODS = {
    "allocate": ["length"],
    "release": ["start"],
    "read": ["start", "index"],
    "write": ["start", "index", "word"],
    "areas": [],
    "free_list": [],
    "layout": [],
    "wide": ["start"],
    "is_used": ["start"],
}
POLICIES = ("first", "best", "worst")


class Model:
    """What a tagged memory holds, told by promises 22 to 25 without any tag."""

    def __init__(self, size, policy):
        self.size = size
        self.policy = policy
        self.used = {}      # the words between the tags, by the start of the area
        self.wide = {}

    def free(self):
        rows = []
        cell = 0
        while cell < self.size:
            if cell in self.used:
                cell += self.wide[cell]
                continue
            end = min([start for start in self.used if start > cell] + [self.size])
            rows.append((cell, end - cell))
            cell = end
        return rows

    def allocate(self, length):
        needed = max(3, length + 2)
        rows = [(start, wide) for start, wide in self.free() if wide >= needed]
        if not rows:
            return None
        if self.policy == "best":
            start, wide = sorted(rows, key=lambda row: (row[1], row[0]))[0]
        elif self.policy == "worst":
            start, wide = sorted(rows, key=lambda row: (-row[1], row[0]))[0]
        else:
            start, wide = rows[0]
        self.wide[start] = needed if wide >= needed + 3 else wide
        self.used[start] = [0] * (self.wide[start] - 2)
        return start

    def release(self, start):
        del self.used[start]
        del self.wide[start]


def state_of(memory):
    return memory.size, memory.policy, list(memory.words), memory.head


class TaggedTest(unittest.TestCase):
    def assert_is(self, memory, areas):
        """Check the areas, and all that promise 22 says of the words, read from the words themselves."""
        self.assertEqual(memory.areas(), areas)
        self.assertEqual(len(memory.words), memory.size)
        self.assertEqual([start for start, _, _ in areas],
                         [sum(wide for _, wide, _ in areas[:index]) for index in range(len(areas))])
        self.assertEqual(sum(wide for _, wide, _ in areas), memory.size)
        for start, wide, used in areas:
            self.assertIs(type(used), bool)
            self.assertGreaterEqual(wide, 3)
            self.assertEqual(memory.words[start], 2 * wide + int(used))
            self.assertEqual(memory.words[start + wide - 1], 2 * wide + int(used))
            self.assertEqual(memory.wide(start), wide)
            self.assertIs(memory.is_used(start), used)
        for (_, _, used), (_, _, other) in zip(areas, areas[1:]):
            self.assertTrue(used or other)
        free = [(start, wide) for start, wide, used in areas if not used]
        links = [start for start, _ in free] + [-1]
        self.assertEqual(memory.head, links[0])
        self.assertEqual([memory.words[start + 1] for start, _ in free], links[1:])
        self.assertEqual(memory.free_list(), free)
        self.assertEqual(memory.layout(), [(start, wide) for start, wide, used in areas if used])

    def assert_agrees(self, memory, model):
        used = [(start, model.wide[start], True) for start in model.used]
        self.assert_is(memory, sorted(used + [(start, wide, False) for start, wide in model.free()]))
        for start, words in model.used.items():
            self.assertEqual([memory.read(start, index) for index in range(len(words))], words)

    def assert_raises(self, kind, field, value, call, memory):
        before = state_of(memory)
        with self.assertRaises(kind) as caught:
            call()
        self.assertEqual(getattr(caught.exception, field), value)
        self.assertIsInstance(caught.exception, HeapgameError)
        self.assertEqual(state_of(memory), before)


class InterfaceTest(unittest.TestCase):
    def test_names_and_arguments(self):
        self.assertEqual(Tagged.__module__, "heapgame.tagged")
        self.assertEqual(list(inspect.signature(tagged.Tagged).parameters), ["size", "policy"])
        for name, arguments in METHODS.items():
            self.assertEqual(list(inspect.signature(vars(Tagged)[name]).parameters)[1:], arguments, name)

    def test_fields_are_set_at_once(self):
        memory = Tagged(8, "best")
        self.assertEqual((memory.size, memory.policy, len(memory.words), memory.head), (8, "best", 8, 0))
        self.assertIsInstance(memory.words, list)

    def test_memories_have_words_of_their_own(self):
        memory = Tagged(8, "best")
        other = Tagged(8, "best")
        memory.allocate(2)
        self.assertEqual(other.areas(), [(0, 8, False)])


class AreasTest(TaggedTest):
    """Promise 22."""

    def test_one_free_area_at_first(self):
        for size in (3, 4, 5, 64):
            for policy in POLICIES:
                memory = Tagged(size, policy)
                self.assert_is(memory, [(0, size, False)])
                self.assertEqual((memory.words[0], memory.words[1], memory.words[size - 1]), (2 * size, -1, 2 * size))

    def test_the_words_of_a_small_memory(self):
        memory = Tagged(10, "first")
        memory.allocate(2)
        self.assertEqual(memory.words[:5], [9, 0, 0, 9, 12])
        self.assertEqual((memory.words[5], memory.words[9], memory.head), (-1, 12, 4))
        memory.allocate(1)
        self.assertEqual(memory.words[:8], [9, 0, 0, 9, 7, 0, 7, 6])
        self.assertEqual((memory.words[8], memory.words[9], memory.head), (-1, 6, 7))
        memory.release(0)
        self.assertEqual((memory.words[0], memory.words[1], memory.words[3], memory.words[8], memory.head),
                         (8, 7, 8, -1, 0))
        memory.allocate(1)
        self.assertEqual(memory.words, [9, 0, 0, 9, 7, 0, 7, 6, -1, 6])

    def test_no_free_area(self):
        memory = Tagged(6, "first")
        memory.allocate(4)
        self.assert_is(memory, [(0, 6, True)])
        self.assertEqual((memory.head, memory.free_list()), (-1, []))

    def test_is_used_is_not_misled_by_words_that_look_like_tags(self):
        memory = Tagged(12, "first")
        memory.allocate(4)
        for index, word in enumerate([7, 0, 7, 9]):
            memory.write(0, index, word)
        for start in (1, 2, 3, 4, 5, -1, 12, 13):
            self.assertIs(memory.is_used(start), False, start)


class AllocateTest(TaggedTest):
    """Promise 23."""

    def test_a_split_with_exactly_3_words_left_over_and_none_with_2(self):
        for policy in POLICIES:
            memory = Tagged(8, policy)
            self.assertEqual(memory.allocate(3), 0)
            self.assert_is(memory, [(0, 5, True), (5, 3, False)])
            memory = Tagged(8, policy)
            self.assertEqual(memory.allocate(4), 0)
            self.assert_is(memory, [(0, 8, True)])
            memory = Tagged(8, policy)
            self.assertEqual(memory.allocate(5), 0)
            self.assert_is(memory, [(0, 8, True)])

    def test_the_words_of_an_area_that_is_used_whole_are_0_and_can_be_reached(self):
        memory = Tagged(8, "first")
        memory.allocate(0)
        memory.allocate(0)
        memory.write(3, 0, 5)
        memory.write(3, 2, 6)
        memory.release(3)
        self.assertEqual(memory.allocate(2), 3)
        self.assertEqual([memory.read(3, index) for index in range(3)], [0, 0, 0])

    def test_a_request_for_0_and_for_1(self):
        for length in (0, 1):
            memory = Tagged(6, "first")
            self.assertEqual(memory.allocate(length), 0)
            self.assert_is(memory, [(0, 3, True), (3, 3, False)])
            self.assertEqual(memory.read(0, 0), 0)
            self.assertEqual(memory.allocate(length), 3)
            self.assert_is(memory, [(0, 3, True), (3, 3, True)])

    def test_the_policies(self):
        # For first, best and worst the number of the gap that is taken.
        for gaps, length, numbers in (
                ((6, 4, 6, 4, 3), 0, (0, 4, 0)), ((6, 4, 6, 4, 3), 2, (0, 1, 0)), ((6, 4, 6, 4, 3), 3, (0, 0, 0)),
                ((4, 7, 3, 7, 4), 0, (0, 2, 1)), ((4, 7, 3, 7, 4), 1, (0, 2, 1)), ((4, 7, 3, 7, 4), 2, (0, 0, 1)),
                ((4, 7, 3, 7, 4), 3, (1, 1, 1)), ((4, 7, 3, 7, 4), 5, (1, 1, 1)), ((3, 5, 4, 8), 3, (1, 1, 3))):
            for policy, number in zip(POLICIES, numbers):
                memory = self.memory_with_gaps(policy, gaps)
                start = sum(gaps[:number]) + 3 * number
                self.assertEqual(memory.allocate(length), start, (policy, gaps, length))

    def memory_with_gaps(self, policy, gaps):
        """A memory with free areas of so many words, each with a used area of 3 words behind it."""
        memory = Tagged(sum(gaps) + 3 * len(gaps), policy)
        areas = []
        for wide in gaps:
            areas.append(memory.allocate(wide - 2))
            memory.allocate(1)
        for start in areas:
            memory.release(start)
        self.assertEqual([wide for _, wide in memory.free_list()], list(gaps))
        return memory

    def test_the_first_of_several_areas_of_equal_length(self):
        for policy in POLICIES:
            memory = self.memory_with_gaps(policy, (5, 5, 5))
            self.assertEqual([memory.allocate(3) for _ in range(3)], [0, 8, 16])

    def test_the_first_words_become_the_used_area(self):
        for policy in POLICIES:
            memory = self.memory_with_gaps(policy, (9,))
            self.assertEqual(memory.allocate(2), 0)
            self.assert_is(memory, [(0, 4, True), (4, 5, False), (9, 3, True)])

    def test_out_of_memory(self):
        for policy in POLICIES:
            memory = Tagged(8, policy)
            self.assert_raises(OutOfMemory, "length", 7, lambda: memory.allocate(7), memory)
            self.assert_raises(OutOfMemory, "length", 100, lambda: memory.allocate(100), memory)
            memory.allocate(3)
            self.assert_raises(OutOfMemory, "length", 2, lambda: memory.allocate(2), memory)
            memory.allocate(1)
            self.assert_raises(OutOfMemory, "length", 0, lambda: memory.allocate(0), memory)

    def test_enough_words_that_are_scattered(self):
        for policy in POLICIES:
            memory = self.memory_with_gaps(policy, (4, 4))
            self.assert_raises(OutOfMemory, "length", 3, lambda: memory.allocate(3), memory)


class ReleaseTest(TaggedTest):
    """Promise 24."""

    def test_joining_on_neither_side_on_one_and_on_both(self):
        for order, areas in (
                ((4,), [(0, 4, True), (4, 4, False), (8, 4, True)]),
                ((0,), [(0, 4, False), (4, 4, True), (8, 4, True)]),
                ((0, 4), [(0, 8, False), (8, 4, True)]),
                ((8, 4), [(0, 4, True), (4, 8, False)]),
                ((4, 0), [(0, 8, False), (8, 4, True)]),
                ((4, 8), [(0, 4, True), (4, 8, False)]),
                ((0, 8), [(0, 4, False), (4, 4, True), (8, 4, False)]),
                ((8, 0), [(0, 4, False), (4, 4, True), (8, 4, False)]),
                ((0, 8, 4), [(0, 12, False)]),
                ((4, 0, 8), [(0, 12, False)])):
            for policy in POLICIES:
                memory = Tagged(12, policy)
                self.assertEqual([memory.allocate(2) for _ in range(3)], [0, 4, 8])
                for start in order:
                    self.assertIsNone(memory.release(start))
                self.assert_is(memory, areas)

    def test_tags_and_links_after_each_release(self):
        for order in itertools.permutations([0, 3, 6, 9]):
            memory = Tagged(12, "first")
            model = Model(12, "first")
            for _ in range(4):
                self.assertEqual(memory.allocate(1), model.allocate(1))
            for start in order:
                memory.release(start)
                model.release(start)
                self.assert_agrees(memory, model)

    def test_starts_at_which_no_used_area_begins(self):
        memory = Tagged(14, "first")
        memory.allocate(2)
        memory.allocate(2)
        memory.release(0)
        memory.write(4, 0, 7)
        memory.write(4, 1, 7)
        for start in (0, 1, 3, 5, 6, 7, 8, 9, 13, 14, 20, -1, -10):
            self.assert_raises(NoSuchObject, "number", start, lambda: memory.release(start), memory)
            self.assert_raises(NoSuchObject, "number", start, lambda: memory.read(start, 0), memory)
            self.assert_raises(NoSuchObject, "number", start, lambda: memory.write(start, 0, 1), memory)

    def test_releasing_twice(self):
        memory = Tagged(8, "first")
        memory.allocate(2)
        memory.release(0)
        self.assert_raises(NoSuchObject, "number", 0, lambda: memory.release(0), memory)


class WordsTest(TaggedTest):
    """Promises 24 and 25."""

    def test_reading_and_writing(self):
        memory = Tagged(12, "first")
        memory.allocate(2)
        memory.allocate(3)
        self.assertIsNone(memory.write(4, 0, 5))
        memory.write(4, 2, -7)
        memory.write(0, 1, 10 ** 30)
        self.assertEqual([memory.read(4, index) for index in range(3)], [5, 0, -7])
        self.assertEqual([memory.read(0, index) for index in range(2)], [0, 10 ** 30])
        self.assertEqual(memory.words[5:8], [5, 0, -7])

    def test_an_index_outside(self):
        memory = Tagged(12, "first")
        memory.allocate(2)
        for index in (-1, 2, 3, 9, -2):
            self.assert_raises(NoSuchField, "index", index, lambda: memory.read(0, index), memory)
            self.assert_raises(NoSuchField, "index", index, lambda: memory.write(0, index, 1), memory)

    def test_no_object_is_told_ahead_of_no_field(self):
        memory = Tagged(12, "first")
        memory.allocate(2)
        for index in (-1, 2, 50):
            self.assert_raises(NoSuchObject, "number", 4, lambda: memory.read(4, index), memory)
            self.assert_raises(NoSuchObject, "number", 1, lambda: memory.write(1, index, 1), memory)

    def test_words_that_look_like_tags_and_links_mislead_nothing(self):
        for word in (-1, 0, 6, 7, 8, 9, 24, 25, 3):
            memory = Tagged(15, "first")
            model = Model(15, "first")
            for length in (2, 3, 1):
                self.assertEqual(memory.allocate(length), model.allocate(length))
            for start, words in model.used.items():
                for index in range(len(words)):
                    memory.write(start, index, word)
                    words[index] = word
            self.assert_agrees(memory, model)
            memory.release(4)
            model.release(4)
            self.assert_agrees(memory, model)
            self.assertEqual(memory.allocate(0), model.allocate(0))
            self.assert_agrees(memory, model)

    def test_all_short_runs(self):
        choices = [("get", 0), ("get", 2), ("get", 4), ("free", 0), ("free", 1), ("free", 2)]
        for policy in POLICIES:
            for steps in itertools.product(choices, repeat=5):
                self.check_steps(policy, 17, steps)

    def check_steps(self, policy, size, steps):
        memory = Tagged(size, policy)
        model = Model(size, policy)
        for number, (kind, argument) in enumerate(steps):
            if kind == "get":
                start = model.allocate(argument)
                if start is None:
                    self.assert_raises(OutOfMemory, "length", argument, lambda: memory.allocate(argument), memory)
                else:
                    self.assertEqual(memory.allocate(argument), start)
                    memory.write(start, 0, number)
                    model.used[start][0] = number
            elif argument < len(model.used):
                start = sorted(model.used)[argument]
                memory.release(start)
                model.release(start)
        self.assert_agrees(memory, model)

    def test_a_used_area_is_read_after_others_came_and_went(self):
        chooser = random.Random(5)
        for policy in POLICIES:
            memory = Tagged(90, policy)
            model = Model(90, policy)
            for number in range(600):
                self.take_step(memory, model, chooser, number)
                self.assert_agrees(memory, model)

    def take_step(self, memory, model, chooser, number):
        if model.used and chooser.random() < 0.5:
            start = chooser.choice(sorted(model.used))
            if chooser.random() < 0.6:
                memory.release(start)
                model.release(start)
            else:
                index = chooser.randrange(len(model.used[start]))
                memory.write(start, index, number)
                model.used[start][index] = number
            return
        length = chooser.randrange(12)
        start = model.allocate(length)
        if start is None:
            self.assert_raises(OutOfMemory, "length", length, lambda: memory.allocate(length), memory)
        else:
            self.assertEqual(memory.allocate(length), start)


class ListsTest(TaggedTest):
    """Promise 3."""

    def test_each_list_that_is_returned_is_a_new_one(self):
        memory = Tagged(12, "first")
        memory.allocate(2)
        for call in (memory.areas, memory.free_list, memory.layout):
            before = state_of(memory)
            first = call()
            again = list(first)
            self.assertTrue(first)
            first.append("changed")
            self.assertEqual(call(), again)
            self.assertEqual(state_of(memory), before)


if __name__ == "__main__":
    unittest.main()
