"""Objects, fields, roots: promises 43 and 44, and 3 over them."""

import copy
import inspect
import itertools
import random
import time
import unittest

from heapgame import store as module
from heapgame.errors import HeapgameError, NoSuchField, NoSuchObject, StillUsed
from heapgame.store import Store, target_of

METHODS = {
    "copy": [],
    "numbers": [],
    "fields": ["number"],
    "make": ["count"],
    "read": ["number", "index"],
    "write": ["number", "index", "value"],
    "is_referenced": ["number"],
    "release": ["number"],
    "add_root": ["number"],
    "remove_root": ["number"],
    "reachable": [],
    "collect": [],
}


def contents(store):
    return copy.deepcopy((store.objects, store.roots, store.next_number))


def store_of(*objects, roots=()):
    """A store with objects that have these fields, and with roots."""
    store = Store()
    for fields in objects:
        store.make(len(fields))
    for number, fields in enumerate(objects):
        for index, value in enumerate(fields):
            store.write(number, index, value)
    for number in roots:
        store.add_root(number)
    return store


def to(number):
    return ("object", number)


class Model:
    """A store, told by promises 43 and 44: pairs of a number and its fields, and a set of roots."""

    def __init__(self):
        self.pairs, self.roots, self.made = [], set(), 0

    def targets(self, fields):
        return {value[1] for value in fields if isinstance(value, tuple)}

    def reached(self):
        reached = set(self.roots)
        for _ in self.pairs:
            reached |= {target for number, fields in self.pairs if number in reached for target in self.targets(fields)}
        return reached

    def act(self, act):
        """What an act returns, or the name of its error and what that tells."""
        kind, *told = act
        if kind == "make":
            self.pairs.append((self.made, [None] * told[0]))
            self.made += 1
            return self.made - 1
        if kind == "collect":
            kept = self.reached()
            removed = [number for number, _ in self.pairs if number not in kept]
            self.pairs = [pair for pair in self.pairs if pair[0] in kept]
            return removed
        found = [fields for number, fields in self.pairs if number == told[0]]
        return self.act_on(kind, *told, fields=found[0]) if found else (NoSuchObject, told[0])

    def act_on(self, kind, number, *told, fields):
        if kind in ("add_root", "remove_root"):
            before = set(self.roots)
            (self.roots.add if kind == "add_root" else self.roots.discard)(number)
            return self.roots != before
        if kind == "release":
            if number in self.roots:
                return StillUsed, number, "root"
            if any(number in self.targets(row) for other, row in self.pairs if other != number):
                return StillUsed, number, "referenced"
            self.pairs = [pair for pair in self.pairs if pair[0] != number]
            return None
        if told[0] not in range(len(fields)):
            return NoSuchField, told[0]
        if kind == "read":
            return fields[told[0]]
        for target in self.targets(told[1:]) - {other for other, _ in self.pairs}:
            return NoSuchObject, target
        fields[told[0]] = told[1]
        return None


def outcome_of(thing, act):
    """What an act returns, or its error and what that tells."""
    kind, *told = act
    try:
        return getattr(thing, kind)(*told)
    except NoSuchField as error:
        return NoSuchField, error.index
    except NoSuchObject as error:
        return NoSuchObject, error.number
    except StillUsed as error:
        return StillUsed, error.number, error.reason


class StoreTest(unittest.TestCase):
    def assert_raises(self, store, act, expected):
        before = contents(store)
        self.assertEqual(outcome_of(store, act), expected)
        self.assertEqual(contents(store), before)


class InterfaceTest(unittest.TestCase):
    def test_names_and_arguments(self):
        self.assertEqual(list(inspect.signature(Store).parameters), [])
        self.assertEqual(list(inspect.signature(target_of).parameters), ["value"])
        for found in (Store, target_of):
            self.assertEqual(found.__module__, module.__name__)
        for name, arguments in METHODS.items():
            self.assertEqual(list(inspect.signature(vars(Store)[name]).parameters)[1:], arguments, name)

    def test_fields_are_set_at_once(self):
        store = Store()
        self.assertEqual((store.objects, store.roots, store.next_number), ({}, [], 0))
        self.assertIsNot(store.objects, Store().objects)
        self.assertIsNot(store.roots, Store().roots)


class FieldsTest(StoreTest):
    """Promises 43 and 44."""

    def test_numbers_in_the_order_of_creation(self):
        store = Store()
        self.assertEqual([store.make(count) for count in (1, 3, 2)], [0, 1, 2])
        self.assertEqual(store.numbers(), [0, 1, 2])
        store.release(1)
        self.assertEqual(store.numbers(), [0, 2])
        self.assertEqual(store.make(1), 3)
        store.release(3)
        self.assertEqual(store.make(1), 4)
        self.assertEqual((store.next_number, store.numbers()), (5, [0, 2, 4]))

    def test_the_fields_of_a_new_object(self):
        store = Store()
        for count in (1, 2, 64):
            number = store.make(count)
            self.assertEqual(store.fields(number), [None] * count)
            self.assertEqual(store.objects[number], [None] * count)

    def test_reading_and_writing(self):
        store = store_of([None, None, None], [None])
        for index, value in ((0, 0), (1, 65535), (2, to(1)), (0, to(0)), (1, None)):
            self.assertIsNone(store.write(0, index, value))
            self.assertEqual(store.read(0, index), value)
        self.assertEqual(store.fields(0), [to(0), None, to(1)])
        self.assertEqual(store.fields(1), [None])

    def test_objects_that_are_not_there(self):
        store = store_of([1], [2, to(0)])
        store.release(1)
        for number in (1, 2, -1, 65535):
            for act in (("fields", number), ("read", number, 0), ("write", number, 0, 1), ("write", number, 9, to(7)),
                        ("read", number, 5), ("release", number), ("add_root", number), ("remove_root", number)):
                self.assert_raises(store, act, (NoSuchObject, number))

    def test_fields_that_are_not_there(self):
        store = store_of([1, 2], [3])
        for number, indices in ((0, (2, 3, -1, -2)), (1, (1, -1))):
            for index in indices:
                self.assert_raises(store, ("read", number, index), (NoSuchField, index))
                self.assert_raises(store, ("write", number, index, 4), (NoSuchField, index))
                self.assert_raises(store, ("write", number, index, to(9)), (NoSuchField, index))

    def test_a_reference_to_an_object_that_does_not_exist(self):
        store = store_of([1, 2], [3])
        for target in (2, -1, 500):
            self.assert_raises(store, ("write", 0, 1, to(target)), (NoSuchObject, target))
        store.release(1)
        self.assert_raises(store, ("write", 0, 0, to(1)), (NoSuchObject, 1))

    def test_target_of(self):
        for value, target in ((None, None), (0, None), (7, None), (65535, None), (to(0), 0), (to(9), 9)):
            self.assertEqual(target_of(value), target)


class ReleaseTest(StoreTest):
    """Promise 44."""

    def test_an_object_that_nothing_refers_to(self):
        store = store_of([to(1)], [None])
        self.assertIsNone(store.release(0))
        self.assertEqual(contents(store), ({1: [None]}, [], 2))
        self.assertIsNone(store.release(1))
        self.assertEqual(contents(store), ({}, [], 2))

    def test_a_root(self):
        store = store_of([None], roots=[0])
        self.assert_raises(store, ("release", 0), (StillUsed, 0, "root"))
        store.remove_root(0)
        store.release(0)
        self.assertEqual(store.numbers(), [])

    def test_a_referenced_object(self):
        store = store_of([5, to(1)], [None])
        self.assert_raises(store, ("release", 1), (StillUsed, 1, "referenced"))
        store.write(0, 1, None)
        store.release(1)
        self.assertEqual(store.numbers(), [0])

    def test_an_object_that_is_both(self):
        store = store_of([to(1)], [None], roots=[1])
        self.assert_raises(store, ("release", 1), (StillUsed, 1, "root"))
        store.remove_root(1)
        self.assert_raises(store, ("release", 1), (StillUsed, 1, "referenced"))

    def test_an_object_that_only_refers_to_itself(self):
        store = store_of([to(0), 3])
        self.assertIs(store.is_referenced(0), False)
        self.assertIsNone(store.release(0))
        self.assertEqual(store.numbers(), [])

    def test_a_ring_of_two(self):
        store = store_of([to(1)], [to(0)])
        self.assert_raises(store, ("release", 0), (StillUsed, 0, "referenced"))
        self.assert_raises(store, ("release", 1), (StillUsed, 1, "referenced"))

    def test_is_referenced(self):
        store = store_of([to(1), to(0)], [to(1)], [to(2), to(1)], [None, 2])
        self.assertEqual([store.is_referenced(number) for number in range(5)], [False, True, False, False, False])
        # Whether the object that refers to another one can be reached does not matter.
        self.assertEqual(store.reachable(), [])


class RootsTest(StoreTest):
    """Promises 43 and 44."""

    def test_roots_are_ascending(self):
        store = store_of([1], [2], [3], [4])
        for number, roots in ((2, [2]), (0, [0, 2]), (3, [0, 2, 3]), (1, [0, 1, 2, 3])):
            self.assertIs(store.add_root(number), True)
            self.assertEqual(store.roots, roots)

    def test_making_and_unmaking_a_root_twice(self):
        store = store_of([1], [2])
        self.assertIs(store.remove_root(0), False)
        self.assertIs(store.add_root(0), True)
        self.assertIs(store.add_root(0), False)
        self.assertEqual(store.roots, [0])
        self.assertIs(store.remove_root(1), False)
        self.assertIs(store.remove_root(0), True)
        self.assertIs(store.remove_root(0), False)
        self.assertEqual(store.roots, [])

    def test_reachable(self):
        store = store_of([to(3), 1], [to(0)], [None, to(2)], [None, to(4)], [to(0)], roots=[0])
        self.assertEqual(store.reachable(), [0, 3, 4])
        store.add_root(2)
        self.assertEqual(store.reachable(), [0, 2, 3, 4])
        store.remove_root(0)
        self.assertEqual(store.reachable(), [2])
        self.assertEqual(store_of([to(0)]).reachable(), [])

    def test_an_integer_is_no_reference(self):
        self.assertEqual(store_of([1], [None], roots=[0]).reachable(), [0])


class CollectTest(StoreTest):
    """Promise 44."""

    def test_nothing_and_everything(self):
        self.assertEqual(Store().collect(), [])
        store = store_of([to(1)], [to(0)], [None])
        self.assertEqual(store.collect(), [0, 1, 2])
        self.assertEqual(contents(store), ({}, [], 3))
        store = store_of([to(1)], [to(0)], roots=[0])
        self.assertEqual(store.collect(), [])
        self.assertEqual(contents(store), ({0: [to(1)], 1: [to(0)]}, [0], 2))

    def test_rings_that_are_removed_and_kept(self):
        store = store_of([to(1)], [to(2)], [to(0)], [to(4)], [to(3), to(1)], [to(1)], roots=[5])
        self.assertEqual(store.collect(), [3, 4])
        self.assertEqual(store.numbers(), [0, 1, 2, 5])
        store.remove_root(5)
        store.add_root(2)
        self.assertEqual(store.collect(), [5])
        store.remove_root(2)
        self.assertEqual(store.collect(), [0, 1, 2])

    def test_as_many_objects_as_there_are_numbers(self):
        before = time.process_time()
        store = store_of(*[[to(number + 1)] for number in range(65535)], [7], roots=[0])
        self.assertEqual(store.reachable(), list(range(65536)))
        store.write(20000, 0, None)
        self.assertEqual(store.collect(), list(range(20001, 65536)))
        self.assertLess(time.process_time() - before, 5)


class RunsTest(StoreTest):
    """Promises 43 and 44, over runs of all operations."""

    def check(self, store, model, act):
        expected = model.act(act)
        before = contents(store)
        self.assertEqual(outcome_of(store, act), expected, act)
        if isinstance(expected, tuple) and expected[0] in (NoSuchObject, NoSuchField, StillUsed):
            self.assertEqual(contents(store), before, act)
            self.assertTrue(issubclass(expected[0], HeapgameError))
        self.assertEqual(contents(store), (dict(model.pairs), sorted(model.roots), model.made), act)
        self.assertEqual(store.numbers(), [number for number, _ in model.pairs])
        self.assertEqual(store.reachable(), sorted(model.reached()))
        for number, fields in model.pairs:
            self.assertEqual(store.fields(number), fields)
            others = [row for other, row in model.pairs if other != number]
            self.assertIs(store.is_referenced(number), any(number in model.targets(row) for row in others))

    def test_all_short_runs(self):
        acts = [("make", 1), ("collect",), ("release", 0), ("release", 1), ("add_root", 1), ("remove_root", 1),
                ("write", 0, 0, to(1)), ("write", 1, 0, to(0)), ("write", 1, 0, to(1)), ("write", 0, 0, None)]
        for run in itertools.product(acts, repeat=4):
            store, model = Store(), Model()
            for act in (("make", 1), ("make", 1)) + run[:3]:
                model.act(act)
                outcome_of(store, act)
            self.check(store, model, run[3])

    def test_long_runs(self):
        for seed in range(30):
            chance = random.Random(seed)
            store, model = Store(), Model()
            for _ in range(120):
                self.check(store, model, self.some_act(chance, model.made))

    def some_act(self, chance, made):
        number, index = chance.randrange(-1, made + 2), chance.randrange(-1, 4)
        value = chance.choice([None, 0, 65535, to(chance.randrange(made + 1)), to(chance.randrange(made + 1))])
        return chance.choice([("make", chance.randrange(1, 4)), ("write", number, index, value),
                              ("write", number, index, value), ("read", number, index), ("release", number),
                              ("add_root", number), ("remove_root", number)] + [("collect",)] * (made % 3 == 0))


class ListsTest(StoreTest):
    """Promise 3, and copies."""

    def test_a_copy_that_is_changed(self):
        store = store_of([to(1)], [5], roots=[0])
        other = store.copy()
        self.assertEqual(contents(other), contents(store))
        before = contents(store)
        other.write(1, 0, 6)
        other.make(3)
        other.add_root(1)
        other.remove_root(0)
        self.assertEqual(contents(store), before)
        other.collect()
        self.assertEqual(contents(store), before)
        behind = contents(other)
        store.write(1, 0, 7)
        store.make(2)
        store.add_root(1)
        self.assertEqual(contents(other), behind)

    def test_each_list_that_is_returned_is_a_new_one(self):
        store = store_of([to(1), None], [5], [None], roots=[0])
        before = contents(store)
        for call in (store.numbers, store.reachable, lambda: store.fields(0)):
            first = call()
            first.append("changed")
            self.assertEqual(call(), first[:-1])
        self.assertEqual(contents(store), before)
        removed = store.collect()
        removed.append("changed")
        self.assertEqual(contents(store), ({0: [to(1), None], 1: [5]}, [0], 3))


if __name__ == "__main__":
    unittest.main()
