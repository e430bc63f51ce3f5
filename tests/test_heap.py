"""Managed heaps: promises 45 to 51, and 3 over them."""

import copy
import functools
import inspect
import itertools
import random
import time
import unittest

import samples
from solved import Solved, contracts_up_to, live

from heapgame import heap as module
from heapgame.errors import (
    HeapgameError, Loses, NoRoom, NoSuchField, NoSuchObject, NotAllowed, OutOfMemory, StillUsed, StrategyDecides)
from heapgame.games import Game
from heapgame.heap import ManagedHeap, contract_heap, policy_heap, replay
from heapgame.layouts import Contract
from heapgame.store import Store

INTERFACE = {
    "policy_heap": ["size", "policy"],
    "contract_heap": ["contract"],
    "ManagedHeap": ["manager"],
    "replay": ["heap", "events"],
}
METHODS = {
    "allocate": ["length"],
    "write": ["number", "index", "value"],
    "release": ["number"],
    "add_root": ["number"],
    "remove_root": ["number"],
    "collect": [],
    "compact": [],
    "make_room": ["length"],
    "slide": [],
    "change": ["event"],
    "read": ["number", "index"],
    "objects": [],
    "address_of": ["number"],
    "layout": [],
    "words": [],
    "log": [],
    "undo": [],
    "branch": [],
}
CALLS = {
    "allocate": ManagedHeap.allocate,
    "write": ManagedHeap.write,
    "release": ManagedHeap.release,
    "addRoot": ManagedHeap.add_root,
    "removeRoot": ManagedHeap.remove_root,
    "collect": ManagedHeap.collect,
    "compact": ManagedHeap.compact,
    "makeRoom": ManagedHeap.make_room,
    "slide": ManagedHeap.slide,
}
POLICIES = ("first", "best", "worst", "next")
WON = ((3, 3, [1], 0), (4, 4, [1, 2], 1), (5, 4, [1, 2], 0), (5, 4, [1, 3], 2))


def to(number):
    return ("object", number)


def contents(heap):
    """All that a heap tells."""
    numbers, roots = heap.objects()
    fields = {number: heap.state.store.fields(number) for number in numbers}
    return (fields, roots, heap.state.starts.copy(), heap.state.cursor, heap.state.store.next_number,
            heap.layout(), heap.words(), heap.log())


def told_by(error):
    return error.__class__, vars(error)


@functools.lru_cache(None)
def solved(size, limit, lengths, budget):
    return Solved(size, limit, list(lengths), budget)


class Model:
    """A heap, told by promises 43 to 50: objects are lists of a start, fields, and whether they are roots."""

    def __init__(self, size, policy=None, game=None):
        self.size, self.policy, self.game = size, policy, game
        self.objects, self.made, self.cursor, self.past = {}, 0, 0, []

    def by_start(self):
        return sorted(self.objects, key=lambda number: self.objects[number][0])

    def layout(self):
        return sorted((start, len(fields)) for start, fields, _ in self.objects.values())

    def change(self, event):
        """What the method of an event returns; the error that it raises is raised here, too."""
        word, *told = event
        before = copy.deepcopy((self.objects, self.made, self.cursor))
        answer = getattr(self, word)(*told)
        if word != "slide" or answer is not None:
            self.past.append((event, before))
        return answer

    def undo(self):
        if self.past:
            _, (self.objects, self.made, self.cursor) = self.past.pop()
            return True
        return False

    def allocate(self, length):
        layout = self.layout()
        if self.game:
            if length not in self.game.lengths or live(layout) + length > self.game.limit:
                raise NotAllowed(length)
            starts, start, price = self.game.manager_reply(tuple(layout), length)
            assert price == samples.cells_moved(layout, starts) <= self.game.budget
            self.put(starts)
        else:
            start = samples.start_by_policy(self.size, layout, length, self.policy, self.cursor)
            if start is None:
                raise OutOfMemory(length)
            self.cursor = start + length
        self.objects[self.made] = [start, [None] * length, False]
        self.made += 1
        return self.made - 1

    def put(self, starts):
        for number, start in zip(self.by_start(), starts):
            self.objects[number][0] = start

    def found(self, number):
        if number not in self.objects:
            raise NoSuchObject(number)
        return self.objects[number]

    def write(self, number, index, value):
        fields = self.found(number)[1]
        if index not in range(len(fields)):
            raise NoSuchField(index)
        if isinstance(value, tuple):
            self.found(value[1])
        fields[index] = value

    def release(self, number):
        if self.found(number)[2]:
            raise StillUsed(number, "root")
        if any(to(number) in fields for other, (_, fields, _) in self.objects.items() if other != number):
            raise StillUsed(number, "referenced")
        del self.objects[number]

    def addRoot(self, number):
        before, self.objects[number][2] = self.found(number)[2], True
        return not before

    def removeRoot(self, number):
        before, self.objects[number][2] = self.found(number)[2], False
        return before

    def collect(self):
        kept = {number for number in self.objects if self.objects[number][2]}
        for _ in self.objects:
            kept |= {value[1] for number in kept for value in self.objects[number][1] if isinstance(value, tuple)}
        removed = sorted(set(self.objects) - kept)
        for number in removed:
            del self.objects[number]
        return removed

    def compact(self):
        lengths = [length for _, length in self.layout()]
        return self.moved([sum(lengths[:at]) for at in range(len(lengths))])

    def makeRoom(self, length):
        if not self.game and length > self.size - live(self.layout()):
            raise NoRoom(length)
        return self.moved(self.game or samples.room_by_trying(
            self.size, self.layout(), samples.relocations_in_order(self.size, self.layout()), [], length)[0])

    def moved(self, starts):
        """The address map, one canonical piece after the other, from the pairs of all cells."""
        if self.game:
            raise StrategyDecides()
        pairs = [(start + step, goal + step) for (start, length), goal in zip(self.layout(), starts)
                 for step in range(length)]
        self.put(starts)
        pieces = []
        for source, target in sorted(pairs):
            if pieces and (source, target) == (pieces[-1][0] + pieces[-1][2], pieces[-1][1] + pieces[-1][2]):
                pieces[-1] = pieces[-1][:2] + (pieces[-1][2] + 1,)
            else:
                pieces.append((source, target, 1))
        return pieces

    def slide(self):
        if self.game:
            raise StrategyDecides()
        used = set(samples.cells_of(self.layout()))
        for number in self.by_start():
            start = goal = self.objects[number][0]
            while goal > 0 and goal - 1 not in used:
                goal -= 1
            if goal < start:
                self.objects[number][0] = goal
                return number, start, goal
        return None

    def words(self):
        words = ["free"] * self.size
        for start, fields, _ in self.objects.values():
            for index, value in enumerate(fields):
                words[start + index] = ("reference", self.objects[value[1]][0]) if isinstance(value, tuple) else value
        return words

    def contents(self):
        fields = {number: row[1] for number, row in self.objects.items()}
        starts = {number: row[0] for number, row in self.objects.items()}
        return (fields, sorted(number for number in self.objects if self.objects[number][2]), starts, self.cursor,
                self.made, self.layout(), self.words(), [event for event, _ in self.past])


class HeapTest(unittest.TestCase):
    def assert_raises(self, heap, event, expected):
        """Both the method and the change of the log raise this error, and change nothing."""
        word, *told = event
        for call in (lambda: CALLS[word](heap, *told), lambda: heap.change(event)):
            before = contents(heap)
            with self.assertRaises(expected.__class__) as caught:
                call()
            self.assertEqual(told_by(caught.exception), told_by(expected))
            self.assertEqual(contents(heap), before)


class InterfaceTest(unittest.TestCase):
    def test_names_and_arguments(self):
        for name, arguments in INTERFACE.items():
            found = getattr(module, name)
            self.assertEqual(list(inspect.signature(found).parameters), arguments, name)
            self.assertEqual(found.__module__, "heapgame.heap")
        for name, arguments in METHODS.items():
            self.assertEqual(list(inspect.signature(vars(ManagedHeap)[name]).parameters)[1:], arguments, name)

    def test_fields_are_set_at_once(self):
        for heap, size in ((policy_heap(7, "best"), 7), (contract_heap(Contract(4, 4, [1, 2], 1)), 4)):
            self.assertEqual(heap.manager.size, size)
            self.assertIsInstance(heap.state.store, Store)
            self.assertEqual((heap.state.starts, heap.state.cursor), ({}, 0))
            self.assertEqual(contents(heap), ({}, [], {}, 0, 0, [], ["free"] * size, []))

    def test_a_heap_with_the_manager_of_another_one(self):
        for heap, length in ((policy_heap(7, "worst"), 2), (contract_heap(Contract(4, 4, [1, 2], 1)), 1)):
            heap.allocate(length)
            before = contents(heap)
            other = ManagedHeap(heap.manager)
            self.assertIs(other.manager, heap.manager)
            self.assertEqual(contents(other)[:5], ({}, [], {}, 0, 0))
            self.assertEqual(other.log(), [])
            self.assertEqual(other.allocate(length), 0)
            self.assertEqual(contents(other), before)
            other.add_root(0)
            self.assertEqual(contents(heap), before)


class AllocateTest(HeapTest):
    """Promises 45 and 46."""

    def test_the_policies(self):
        for policy, start in (("first", 0), ("best", 4), ("worst", 0), ("next", 7)):
            heap = policy_heap(10, policy)
            # Gaps of 3, 2 and 3 cells are left, whatever the policy is; the cursor is 7.
            for length in (3, 1, 2, 1):
                heap.allocate(length)
            heap.release(0)
            heap.release(2)
            self.assertEqual((heap.layout(), heap.state.cursor), ([(3, 1), (6, 1)], 7))
            self.assertEqual(heap.allocate(2), 4)
            self.assertEqual(heap.address_of(4), start, policy)

    def test_a_new_object(self):
        heap = policy_heap(8, "first")
        self.assertEqual([heap.allocate(length) for length in (2, 1, 3)], [0, 1, 2])
        self.assertEqual([heap.address_of(number) for number in range(3)], [0, 2, 3])
        self.assertEqual([heap.read(2, index) for index in range(3)], [None] * 3)
        self.assertEqual(heap.objects(), ([0, 1, 2], []))
        heap.release(1)
        self.assertEqual(heap.allocate(1), 3)
        self.assertEqual(heap.objects(), ([0, 2, 3], []))

    def test_the_cursor_of_next(self):
        heap = policy_heap(6, "next")
        self.assertEqual(heap.state.cursor, 0)
        heap.allocate(2)
        heap.allocate(1)
        self.assertEqual(heap.state.cursor, 3)
        heap.release(0)
        heap.add_root(1)
        heap.write(1, 0, 5)
        self.assertEqual(heap.state.cursor, 3)
        heap.compact()
        self.assertEqual((heap.layout(), heap.state.cursor), ([(0, 1)], 3))
        heap.allocate(1)
        self.assertEqual((heap.layout(), heap.state.cursor), ([(0, 1), (3, 1)], 4))
        heap.collect()
        heap.slide()
        heap.make_room(5)
        self.assertEqual(heap.state.cursor, 4)
        heap.allocate(3)
        self.assertEqual((heap.layout(), heap.state.cursor), ([(0, 1), (1, 3)], 4))
        heap.undo()
        heap.allocate(2)
        self.assertEqual(heap.state.cursor, 6)
        heap.allocate(1)
        self.assertEqual((heap.layout(), heap.state.cursor), ([(0, 1), (1, 1), (4, 2)], 2))
        for cursor in (6, 4, 4, 4, 3):
            heap.undo()
            self.assertEqual(heap.state.cursor, cursor)

    def test_out_of_memory(self):
        heap = policy_heap(6, "first")
        for length in (7, 64, 70000):
            self.assert_raises(heap, ("allocate", length), OutOfMemory(length))
        for length in (1, 2, 1, 2):
            heap.allocate(length)
        self.assert_raises(heap, ("allocate", 1), OutOfMemory(1))
        heap.release(0)
        heap.release(2)
        self.assert_raises(heap, ("allocate", 2), OutOfMemory(2))
        self.assertEqual(heap.allocate(1), 4)

    def test_not_allowed(self):
        heap = contract_heap(Contract(4, 3, [1, 2], 0))
        for length in (3, 4, 0, -1):
            self.assert_raises(heap, ("allocate", length), NotAllowed(length))
        heap.allocate(2)
        self.assert_raises(heap, ("allocate", 2), NotAllowed(2))
        heap.allocate(1)
        self.assert_raises(heap, ("allocate", 1), NotAllowed(1))
        heap.release(0)
        self.assertEqual(heap.allocate(2), 2)

    def test_a_strategy_that_moves_blocks(self):
        heap = contract_heap(Contract(4, 4, [1, 2], 1))
        for value in range(4):
            heap.write(heap.allocate(1), 0, value)
        heap.write(3, 0, to(1))
        self.assertEqual(heap.words(), [0, 1, 2, ("reference", 1)])
        heap.release(0)
        heap.release(2)
        self.assertEqual(heap.layout(), [(1, 1), (3, 1)])
        heap.allocate(2)
        # The first reply: the second block is moved to the cell 0.
        self.assertEqual(heap.words(), [("reference", 1), 1, None, None])
        self.assertEqual(heap.state.starts, {1: 1, 3: 0, 4: 2})

    def test_a_contract_that_the_program_wins(self):
        for told in ((3, 3, [1, 2], 0), (4, 4, [1, 2], 0), (2, 3, [3], 2), (6, 6, [2, 3], 1)):
            with self.assertRaises(Loses) as caught:
                contract_heap(Contract(*told))
            self.assertIsInstance(caught.exception, HeapgameError)

    def test_which_contracts_have_a_heap(self):
        for told in contracts_up_to(3):
            if Game(Contract(*told)).winner() == "manager":
                self.assertEqual(contract_heap(Contract(*told)).manager.size, told[0])
            else:
                self.assertRaises(Loses, contract_heap, Contract(*told))

    def test_each_allocation_that_is_allowed_is_served(self):
        """Promise 51: whatever was done before, and few cells are moved."""
        for told in WON + ((6, 5, [1, 2, 3], 2), (8, 6, [1, 2, 3], 1)):
            contract = Contract(*told)
            heap = contract_heap(contract)
            chance = random.Random(7)
            for turn in range(250):
                before = dict(heap.state.starts)
                lengths = [length for length in told[2] if live(heap.layout()) + length <= told[1]]
                if lengths and chance.random() < 0.6:
                    number = heap.allocate(chance.choice(lengths))
                    moved = [other for other in before if before[other] != heap.address_of(other)]
                    self.assertLessEqual(sum(len(heap.state.store.fields(other)) for other in moved), told[3])
                    self.assertTrue(samples.lie_apart(told[0], heap.layout()))
                    self.assertIn(number, heap.objects()[0])
                    continue
                if heap.objects()[0]:
                    number = chance.choice(heap.objects()[0])
                    if number in heap.objects()[1]:
                        heap.remove_root(number)
                    chance.choice([heap.release, heap.add_root])(number)
                if turn % 9 == 0:
                    heap.collect()
                if turn % 7 == 0:
                    heap.undo()


class MoveTest(HeapTest):
    """Promise 47."""

    def heap_with(self, size, layout):
        """A heap in which an object of one cell was released for each free cell."""
        heap = policy_heap(size, "first")
        starts = dict(layout)
        spare = []
        cell = 0
        while cell < size:
            number = heap.allocate(starts.get(cell, 1))
            spare += [] if cell in starts else [number]
            cell += starts.get(cell, 1)
        for number in spare:
            heap.release(number)
        self.assertEqual(heap.layout(), layout)
        return heap

    def test_no_object(self):
        heap = policy_heap(5, "first")
        self.assertEqual((heap.compact(), heap.make_room(5), heap.slide()), ([], [], None))
        self.assertEqual(heap.log(), [("compact",), ("makeRoom", 5)])
        self.assert_raises(heap, ("makeRoom", 6), NoRoom(6))

    def test_nothing_to_move(self):
        heap = self.heap_with(6, [(0, 2), (2, 1)])
        self.assertEqual((heap.compact(), heap.make_room(3), heap.slide()), ([(0, 0, 3)], [(0, 0, 3)], None))
        self.assertEqual(heap.layout(), [(0, 2), (2, 1)])
        heap = self.heap_with(2, [(0, 2)])
        self.assertEqual((heap.compact(), heap.slide()), ([(0, 0, 2)], None))

    def test_several_gaps(self):
        heap = self.heap_with(9, [(1, 2), (4, 1), (7, 1)])
        self.assertEqual(heap.compact(), [(1, 0, 2), (4, 2, 1), (7, 3, 1)])
        self.assertEqual(heap.layout(), [(0, 2), (2, 1), (3, 1)])
        heap = self.heap_with(9, [(1, 2), (4, 1), (7, 1)])
        self.assertEqual(heap.make_room(3), [(1, 1, 2), (4, 3, 1), (7, 7, 1)])
        self.assertEqual(heap.layout(), [(1, 2), (3, 1), (7, 1)])
        heap = self.heap_with(9, [(1, 2), (4, 1), (7, 1)])
        numbers = sorted(heap.state.starts, key=heap.address_of)
        self.assertEqual(heap.slide(), (numbers[0], 1, 0))
        self.assertEqual(heap.slide(), (numbers[1], 4, 2))
        self.assertEqual(heap.slide(), (numbers[2], 7, 3))
        self.assertIsNone(heap.slide())
        self.assertEqual(heap.layout(), [(0, 2), (2, 1), (3, 1)])

    def test_a_slide_past_blocks_that_lie_well(self):
        heap = self.heap_with(8, [(0, 1), (1, 2), (5, 2)])
        number = max(heap.state.starts, key=heap.address_of)
        self.assertEqual(heap.slide(), (number, 5, 3))
        self.assertEqual(heap.layout(), [(0, 1), (1, 2), (3, 2)])

    def test_references_follow_the_moves(self):
        heap = policy_heap(8, "first")
        for length in (1, 2, 1, 2):
            heap.allocate(length)
        heap.write(1, 0, to(3))
        heap.write(1, 1, to(1))
        heap.write(3, 0, to(1))
        heap.write(3, 1, 7)
        heap.release(0)
        heap.release(2)
        free = "free"
        self.assertEqual(heap.words(), [free, ("reference", 4), ("reference", 1), free, ("reference", 1), 7, free, free])
        heap.slide()
        self.assertEqual(heap.words(), [("reference", 4), ("reference", 0), free, free, ("reference", 0), 7, free, free])
        heap.compact()
        self.assertEqual(heap.words(), [("reference", 2), ("reference", 0), ("reference", 0), 7] + [free] * 4)
        self.assertEqual([heap.read(1, 0), heap.read(1, 1), heap.read(3, 0)], [to(3), to(1), to(1)])

    def test_no_room(self):
        heap = self.heap_with(6, [(1, 2), (4, 1)])
        for length in (4, 5, 7, 64):
            self.assert_raises(heap, ("makeRoom", length), NoRoom(length))
        heap.make_room(3)
        heap.allocate(3)
        self.assert_raises(heap, ("makeRoom", 1), NoRoom(1))

    def test_room_for_no_cell_raises_nothing(self):
        self.assertEqual(self.heap_with(3, [(0, 2), (2, 1)]).make_room(0), [(0, 0, 3)])

    def test_the_strategy_decides(self):
        heap = contract_heap(Contract(4, 4, [1, 2], 1))
        for _ in range(3):
            for event in (("compact",), ("makeRoom", 1), ("makeRoom", 9), ("slide",)):
                self.assert_raises(heap, event, StrategyDecides())
            heap.allocate(1)
        heap.release(0)
        for event in (("compact",), ("makeRoom", 1), ("makeRoom", 9), ("slide",)):
            self.assert_raises(heap, event, StrategyDecides())

    def test_all_small_layouts(self):
        for layout in samples.block_lists(6):
            for event in [("compact",), ("slide",)] + [("makeRoom", length) for length in range(1, 8)]:
                heap = self.heap_with(6, layout)
                model = Model(6, "first")
                model.objects = {number: [start, heap.state.store.fields(number), False]
                                 for number, start in heap.state.starts.items()}
                try:
                    expected = model.change(event)
                except NoRoom as error:
                    self.assert_raises(heap, event, error)
                    continue
                self.assertEqual(heap.change(event), expected, (layout, event))
                self.assertEqual(heap.state.starts, {number: row[0] for number, row in model.objects.items()})


class WordsTest(HeapTest):
    """Promise 48, and what is read."""

    def test_words_of_all_kinds(self):
        heap = policy_heap(6, "first")
        heap.allocate(2)
        heap.allocate(3)
        for number, index, value in ((0, 0, to(1)), (1, 0, 0), (1, 1, 65535), (1, 2, to(1))):
            self.assertIsNone(heap.write(number, index, value))
            self.assertEqual(heap.read(number, index), value)
        self.assertEqual(heap.words(), [("reference", 2), None, 0, 65535, ("reference", 2), "free"])

    def test_a_heap_of_64_cells(self):
        heap = policy_heap(64, "first")
        self.assertEqual(heap.words(), ["free"] * 64)
        heap.allocate(64)
        self.assertEqual(heap.words(), [None] * 64)

    def test_errors_of_reading(self):
        heap = policy_heap(6, "first")
        heap.allocate(2)
        for number, index, expected in ((1, 0, NoSuchObject(1)), (-1, 0, NoSuchObject(-1)), (1, 9, NoSuchObject(1)),
                                        (0, 2, NoSuchField(2)), (0, -1, NoSuchField(-1))):
            with self.assertRaises(expected.__class__) as caught:
                heap.read(number, index)
            self.assertEqual(told_by(caught.exception), told_by(expected))
        with self.assertRaises(NoSuchObject) as caught:
            heap.address_of(3)
        self.assertEqual(caught.exception.number, 3)

    def test_errors_of_changes(self):
        heap = policy_heap(6, "first")
        heap.allocate(2)
        heap.allocate(1)
        heap.write(0, 0, to(1))
        heap.add_root(0)
        for event, expected in (
                (("write", 2, 0, 1), NoSuchObject(2)), (("write", 0, 2, to(5)), NoSuchField(2)),
                (("write", 0, -1, 1), NoSuchField(-1)), (("write", 0, 1, to(2)), NoSuchObject(2)),
                (("release", 2), NoSuchObject(2)), (("release", 0), StillUsed(0, "root")),
                (("release", 1), StillUsed(1, "referenced")), (("addRoot", 2), NoSuchObject(2)),
                (("removeRoot", -1), NoSuchObject(-1)), (("allocate", 4), OutOfMemory(4)),
                (("makeRoom", 4), NoRoom(4))):
            self.assert_raises(heap, event, expected)
        heap.add_root(1)
        self.assert_raises(heap, ("release", 1), StillUsed(1, "root"))


class LogTest(HeapTest):
    """Promise 49."""

    def test_each_change_in_its_form(self):
        heap = policy_heap(9, "next")
        self.assertEqual(heap.allocate(2), 0)
        self.assertEqual(heap.allocate(1), 1)
        self.assertEqual(heap.allocate(1), 2)
        self.assertIsNone(heap.write(0, 0, to(2)))
        self.assertIsNone(heap.write(0, 1, 9))
        self.assertIsNone(heap.write(0, 1, None))
        self.assertIsNone(heap.release(1))
        self.assertIs(heap.add_root(0), True)
        self.assertEqual(heap.slide(), (2, 3, 2))
        self.assertEqual(heap.collect(), [])
        self.assertIs(heap.remove_root(0), True)
        self.assertEqual(heap.compact(), [(0, 0, 3)])
        self.assertEqual(heap.make_room(3), [(0, 0, 3)])
        self.assertEqual(heap.collect(), [0, 2])
        self.assertEqual(heap.log(), [
            ("allocate", 2), ("allocate", 1), ("allocate", 1), ("write", 0, 0, to(2)), ("write", 0, 1, 9),
            ("write", 0, 1, None), ("release", 1), ("addRoot", 0), ("slide",), ("collect",), ("removeRoot", 0),
            ("compact",), ("makeRoom", 3), ("collect",)])

    def test_changes_that_make_no_difference(self):
        heap = policy_heap(4, "first")
        heap.allocate(1)
        self.assertEqual((heap.add_root(0), heap.add_root(0)), (True, False))
        self.assertEqual((heap.remove_root(0), heap.remove_root(0)), (True, False))
        heap.add_root(0)
        heap.write(0, 0, None)
        heap.collect()
        heap.compact()
        heap.make_room(1)
        self.assertEqual(heap.log(), [
            ("allocate", 1), ("addRoot", 0), ("addRoot", 0), ("removeRoot", 0), ("removeRoot", 0), ("addRoot", 0),
            ("write", 0, 0, None), ("collect",), ("compact",), ("makeRoom", 1)])
        for left in range(9, -1, -1):
            self.assertIs(heap.undo(), True)
            self.assertEqual(len(heap.log()), left)
        self.assertIs(heap.undo(), False)

    def test_a_slide_that_moves_nothing_is_no_change(self):
        heap = policy_heap(4, "first")
        heap.allocate(1)
        self.assertIsNone(heap.slide())
        self.assertIsNone(heap.change(("slide",)))
        self.assertEqual(heap.log(), [("allocate", 1)])
        heap.undo()
        self.assertEqual(heap.objects(), ([], []))

    def test_undoing_each_kind_of_change(self):
        heap = policy_heap(9, "next")
        for length in (1, 2, 1, 2):
            heap.allocate(length)
        heap.write(1, 0, to(3))
        heap.write(3, 0, to(1))
        heap.add_root(2)
        heap.release(0)
        for event in (("allocate", 2), ("write", 1, 0, 5), ("write", 3, 1, to(2)), ("addRoot", 1), ("removeRoot", 2),
                      ("collect",), ("compact",), ("makeRoom", 4), ("slide",)):
            before = contents(heap)
            heap.change(event)
            self.assertNotEqual(contents(heap), before)
            self.assertIs(heap.undo(), True)
            self.assertEqual(contents(heap), before)
        heap.remove_root(2)
        before = contents(heap)
        heap.release(2)
        heap.undo()
        self.assertEqual(contents(heap), before)

    def test_the_number_of_the_next_object_is_undone(self):
        heap = policy_heap(4, "first")
        self.assertEqual(heap.allocate(1), 0)
        heap.undo()
        self.assertEqual(heap.allocate(2), 0)
        heap.release(0)
        self.assertEqual(heap.allocate(1), 1)
        heap.undo()
        heap.undo()
        self.assertEqual(heap.objects(), ([0], []))
        self.assertEqual(heap.allocate(1), 1)

    def test_undoing_more_often_than_there_are_changes(self):
        for heap in (policy_heap(4, "first"), contract_heap(Contract(4, 4, [1, 2], 1))):
            fresh = contents(heap)
            self.assertIs(heap.undo(), False)
            heap.allocate(1)
            heap.allocate(2)
            self.assertEqual([heap.undo() for _ in range(4)], [True, True, False, False])
            self.assertEqual(contents(heap), fresh)

    def test_undoing_is_not_logged_and_is_not_undone(self):
        heap = policy_heap(4, "first")
        heap.allocate(1)
        heap.add_root(0)
        heap.undo()
        self.assertEqual(heap.log(), [("allocate", 1)])
        heap.undo()
        self.assertEqual(heap.log(), [])

    def test_branches_that_are_changed_on_both_sides(self):
        heap = policy_heap(8, "next")
        heap.allocate(2)
        heap.write(0, 0, 5)
        before = contents(heap)
        other = heap.branch()
        self.assertIs(other.manager, heap.manager)
        self.assertEqual(contents(other), before)
        heap.write(0, 0, 6)
        heap.allocate(1)
        other.add_root(0)
        other.write(0, 1, to(0))
        self.assertEqual(heap.state.store.fields(0), [6, None])
        self.assertEqual(other.state.store.fields(0), [5, to(0)])
        self.assertEqual((heap.objects(), other.objects()), (([0, 1], []), ([0], [0])))
        self.assertEqual((heap.state.cursor, other.state.cursor), (3, 2))
        self.assertEqual(heap.log()[2:], [("write", 0, 0, 6), ("allocate", 1)])
        self.assertEqual(other.log()[2:], [("addRoot", 0), ("write", 0, 1, to(0))])
        for both in (heap, other):
            both.undo()
            both.undo()
            self.assertEqual(contents(both), before)

    def test_branches_that_are_undone_past_the_place_where_they_parted(self):
        heap = policy_heap(8, "first")
        heap.allocate(2)
        empty_field = contents(heap)
        heap.write(0, 0, 5)
        other = heap.branch()
        other.release(0)
        heap.undo()
        self.assertEqual(contents(heap), empty_field)
        heap.write(0, 0, 7)
        self.assertEqual(other.objects(), ([], []))
        other.undo()
        self.assertEqual(other.read(0, 0), 5)
        other.undo()
        self.assertEqual(contents(other), empty_field)
        self.assertEqual(heap.read(0, 0), 7)
        self.assertEqual([other.undo(), other.undo()], [True, False])
        self.assertEqual([heap.undo(), heap.undo(), heap.undo()], [True, True, False])

    def test_a_branch_of_a_branch(self):
        heap = contract_heap(Contract(4, 4, [1, 2], 1))
        heap.allocate(1)
        third = heap.branch().branch()
        third.allocate(2)
        self.assertEqual((heap.objects()[0], third.objects()[0]), ([0], [0, 1]))
        self.assertEqual(heap.branch().log(), [("allocate", 1)])

    def test_change_returns_what_the_methods_return(self):
        events = [("allocate", 2), ("allocate", 1), ("allocate", 3), ("write", 2, 0, to(0)), ("addRoot", 2),
                  ("addRoot", 2), ("removeRoot", 0), ("release", 1), ("slide",), ("slide",), ("compact",),
                  ("makeRoom", 2), ("removeRoot", 2), ("collect",)]
        heap, other = policy_heap(9, "best"), policy_heap(9, "best")
        answers = []
        for word, *told in events:
            answers.append(CALLS[word](heap, *told))
            self.assertEqual(other.change((word, *told)), answers[-1])
            self.assertEqual(contents(other), contents(heap))
        self.assertEqual(answers, [0, 1, 2, None, True, False, False, None, (2, 3, 2), None, [(0, 0, 5)], [(0, 0, 5)],
                                   True, [0, 2]])


class ReplayTest(HeapTest):
    """Promises 50 and 51."""

    def test_a_replay_without_an_error(self):
        heap = policy_heap(6, "first")
        events = [("allocate", 1), ("slide",), ("allocate", 2), ("release", 0), ("slide",), ("write", 1, 0, 8)]
        self.assertEqual(replay(heap, events), (6, None))
        self.assertEqual(heap.words(), [8, None] + ["free"] * 4)
        self.assertEqual(heap.log(), events[:1] + events[2:])

    def test_nothing_is_replayed(self):
        heap = policy_heap(6, "first")
        self.assertEqual(replay(heap, []), (0, None))
        self.assertEqual(heap.log(), [])

    def test_a_replay_that_ends_with_an_error(self):
        for event, expected in ((("allocate", 5), OutOfMemory(5)), (("release", 7), NoSuchObject(7)),
                                (("write", 0, 2, 1), NoSuchField(2)), (("release", 0), StillUsed(0, "root")),
                                (("makeRoom", 5), NoRoom(5))):
            heap = policy_heap(6, "first")
            performed, error = replay(heap, [("allocate", 2), ("addRoot", 0), ("slide",), event, ("allocate", 1)])
            self.assertEqual(performed, 3)
            self.assertEqual(told_by(error), told_by(expected))
            self.assertEqual(heap.log(), [("allocate", 2), ("addRoot", 0)])

    def test_a_replay_that_fails_at_once(self):
        heap = contract_heap(Contract(4, 4, [1, 2], 1))
        performed, error = replay(heap, [("slide",), ("allocate", 1)])
        self.assertEqual((performed, told_by(error)), (0, told_by(StrategyDecides())))
        performed, error = replay(heap, [("allocate", 3)])
        self.assertEqual((performed, told_by(error)), (0, told_by(NotAllowed(3))))
        self.assertEqual(heap.log(), [])

    def test_a_replay_goes_on_where_a_heap_is(self):
        heap = policy_heap(6, "first")
        heap.allocate(2)
        self.assertEqual(replay(heap, [("addRoot", 0), ("allocate", 1)]), (2, None))
        self.assertEqual(heap.log(), [("allocate", 2), ("addRoot", 0), ("allocate", 1)])


class RunsTest(HeapTest):
    """Promises 45 to 51, over runs of all changes."""

    def check(self, heap, model, event):
        try:
            expected, error = model.change(event), None
        except HeapgameError as caught:
            expected, error = None, caught
        if error is not None:
            self.assert_raises(heap, event, error)
        elif event[0] in ("addRoot", "removeRoot"):
            self.assertIs(heap.change(event), expected)
        else:
            word, *told = event
            self.assertEqual(CALLS[word](heap, *told), expected, event)
        self.compare(heap, model)

    def compare(self, heap, model):
        self.assertEqual(contents(heap), model.contents())
        self.assertEqual(heap.objects()[0], sorted(model.objects))
        for number, (start, fields, _) in model.objects.items():
            self.assertEqual(heap.address_of(number), start)
            self.assertEqual([heap.read(number, index) for index in range(len(fields))], fields)

    def some_event(self, chance, made):
        number, index = chance.randrange(max(0, made - 6), made + 2), chance.randrange(-1, 3)
        value = chance.choice([None, 3, to(chance.randrange(max(0, made - 6), made + 1))])
        return chance.choice([("allocate", chance.randrange(1, 4))] * 4 + [("write", number, index, value)] * 4 + [
            ("release", number), ("release", number), ("addRoot", number), ("addRoot", number), ("removeRoot", number),
            chance.choice([("collect",), ("slide",)]), ("slide",), chance.choice([("compact",), ("slide",)]),
            ("makeRoom", chance.randrange(1, 5))])

    def run_heap(self, heap, model, seed):
        chance = random.Random(seed)
        branches = []
        for _ in range(90):
            if chance.random() < 0.12:
                self.assertIs(heap.undo(), model.undo())
                self.compare(heap, model)
            elif chance.random() < 0.05:
                branches.append((heap.branch(), copy.deepcopy(model)))
            else:
                self.check(heap, model, self.some_event(chance, model.made))
        fresh = ManagedHeap(heap.manager)
        self.assertEqual(replay(fresh, heap.log()), (len(heap.log()), None))
        self.assertEqual(contents(fresh), contents(heap))
        for other, other_model in branches:
            self.compare(other, other_model)
            self.check(other, other_model, self.some_event(chance, other_model.made))
        for _ in range(100):
            self.assertIs(heap.undo(), model.undo())
            self.compare(heap, model)

    def test_runs_with_policies(self):
        for seed, (policy, size) in enumerate(itertools.product(POLICIES, (1, 5, 6, 7))):
            self.run_heap(policy_heap(size, policy), Model(size, policy), seed)

    def test_runs_with_contracts(self):
        for seed, (size, limit, lengths, budget) in enumerate(WON):
            game = solved(size, limit, tuple(lengths), budget)
            self.run_heap(contract_heap(Contract(size, limit, lengths, budget)), Model(size, game=game), seed)
            self.run_heap(contract_heap(Contract(size, limit, lengths, budget)), Model(size, game=game), seed + 50)

    def test_objects_fields_and_roots_are_those_of_a_store(self):
        """Promise 51: what is read does not depend on addresses."""
        names = {"addRoot": "add_root", "removeRoot": "remove_root", "allocate": "make"}
        chance = random.Random(3)
        heap = policy_heap(12, "worst")
        for _ in range(300):
            replay(heap, [self.some_event(chance, heap.state.store.next_number)])
        store = Store()
        for word, *told in heap.log():
            if word not in ("compact", "makeRoom", "slide"):
                getattr(store, names.get(word, word))(*told)
        self.assertEqual((store.objects, store.roots, store.next_number),
                         (heap.state.store.objects, heap.state.store.roots, heap.state.store.next_number))


class ListsTest(HeapTest):
    """Promise 3."""

    def test_each_list_that_is_returned_is_a_new_one(self):
        heap = policy_heap(8, "first")
        heap.allocate(1)
        heap.allocate(2)
        heap.add_root(1)
        before = contents(heap)
        for call in (heap.layout, heap.words, heap.log, lambda: heap.objects()[0], lambda: heap.objects()[1]):
            first = call()
            first.append("changed")
            self.assertEqual(call(), first[:-1])
            self.assertEqual(contents(heap), before)
        heap.compact().append("changed")
        heap.make_room(2).append("changed")
        heap.collect().append("changed")
        self.assertEqual(contents(heap)[0], {1: [None, None]})
        self.assertEqual(heap.log()[-3:], [("compact",), ("makeRoom", 2), ("collect",)])

    def test_events_that_are_passed_in_stay(self):
        events = [("allocate", 2), ("write", 0, 0, to(0)), ("slide",), ("release", 4)]
        before = copy.deepcopy(events)
        replay(policy_heap(4, "first"), events)
        self.assertEqual(events, before)
        lengths = [1, 2]
        contract_heap(Contract(4, 4, lengths, 1)).allocate(1)
        self.assertEqual(lengths, [1, 2])


class TimeTest(unittest.TestCase):
    def test_heaps_of_64_cells_and_contracts_of_8_take_seconds(self):
        before = time.process_time()
        heap = policy_heap(64, "worst")
        for _ in range(64):
            heap.allocate(1)
        for number in range(0, 64, 2):
            heap.release(number)
        heap.branch().compact()
        heap.branch().make_room(32)
        while heap.slide():
            heap.words()
        heap = contract_heap(Contract(8, 8, [1, 2, 3], 2))
        for length in (1, 1, 2, 1, 3):
            heap.allocate(length)
        for _ in range(60):
            heap.release(heap.objects()[0][1])
            heap.allocate(1)
        self.assertLess(time.process_time() - before, 10)

    def test_as_many_objects_as_there_are_numbers(self):
        before = time.process_time()
        heap = policy_heap(2, "first")
        for number in range(65535):
            self.assertEqual(heap.allocate(1), number)
            heap.release(number)
        self.assertEqual(heap.allocate(2), 65535)
        self.assertLess(time.process_time() - before, 20)


if __name__ == "__main__":
    unittest.main()
