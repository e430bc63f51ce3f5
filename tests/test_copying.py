"""The copying collector: promises 26 to 30, and 3 over them."""

import inspect
import random
import unittest

from heapgame import copying
from heapgame.copying import Halves
from heapgame.errors import HeapgameError, NoSuchField, NoSuchObject, OutOfMemory

METHODS = {
    "make": ["root", "many"],
    "drop": ["root"],
    "put_null": ["root", "index"],
    "put_number": ["root", "index", "number"],
    "put_object": ["root", "index", "other"],
    "read": ["root", "index"],
    "load": ["root", "other", "index"],
    "used": [],
    "collect": [],
    "graph": [],
}


class Thing:
    """An object of the model, without any address: a field is None, a number or a thing."""

    def __init__(self, many):
        self.fields = [None] * many


class Model:
    """The roots and what they hold, and how many words are used, told by promises 26 to 28."""

    def __init__(self, size, roots):
        self.size = size
        self.roots = [None] * roots
        self.used = 0
        self.collections = 0

    def found(self):
        """The things in the order of promise 29."""
        order = []
        for thing in self.roots:
            self.note(thing, order)
        for thing in order:
            for field in thing.fields:
                self.note(field, order)
        return order

    def note(self, value, order):
        if isinstance(value, Thing) and not any(value is thing for thing in order):
            order.append(value)

    def graph(self):
        order = self.found()
        number = {id(thing): at for at, thing in enumerate(order)}
        roots = [None if thing is None else number[id(thing)] for thing in self.roots]
        fields = [[(number[id(value)],) if isinstance(value, Thing) else value for value in thing.fields]
                  for thing in order]
        return roots, fields

    def collect(self):
        self.collections += 1
        self.used = sum(1 + len(thing.fields) for thing in self.found())
        return self.used

    def make(self, root, many):
        if self.used + 1 + many > self.size:
            self.collect()
        if self.used + 1 + many > self.size:
            return False
        self.used += 1 + many
        self.roots[root] = Thing(many)
        return True


def state_of(heap):
    return heap.size, list(heap.words), heap.base, heap.top, list(heap.roots)


def words_of(fields, base):
    """The words of the objects of a graph that lie one behind the other from a base on, told by promise 26."""
    starts = []
    end = base
    for row in fields:
        starts.append(end)
        end += 1 + len(row)
    words = []
    for row in fields:
        words.append(-1 - len(row))
        for value in row:
            if value is None:
                words.append(0)
            elif isinstance(value, tuple):
                words.append(2 * starts[value[0]] + 1)
            else:
                words.append(2 * value + 2)
    return starts, words


class CopyingTest(unittest.TestCase):
    def assert_collected(self, heap):
        """Check promise 30, behind a collection of this heap."""
        roots, fields = heap.graph()
        starts, words = words_of(fields, heap.base)
        self.assertEqual(heap.words[heap.base:heap.top], words)
        self.assertEqual(heap.used(), sum(1 + len(row) for row in fields))
        self.assertEqual(heap.roots, [None if number is None else starts[number] for number in roots])

    def assert_raises(self, kind, field, value, call, heap):
        before = state_of(heap)
        with self.assertRaises(kind) as caught:
            call()
        self.assertEqual(getattr(caught.exception, field), value)
        self.assertIsInstance(caught.exception, HeapgameError)
        self.assertEqual(state_of(heap), before)


class InterfaceTest(unittest.TestCase):
    def test_names_and_arguments(self):
        self.assertEqual(Halves.__module__, "heapgame.copying")
        self.assertEqual(list(inspect.signature(copying.Halves).parameters), ["size", "roots"])
        for name, arguments in METHODS.items():
            self.assertEqual(list(inspect.signature(vars(Halves)[name]).parameters)[1:], arguments, name)

    def test_fields_are_set_at_once(self):
        heap = Halves(6, 3)
        self.assertEqual((heap.size, len(heap.words), heap.base, heap.top, heap.roots),
                         (6, 12, 0, 0, [None, None, None]))
        self.assertIsInstance(heap.words, list)
        self.assertEqual(heap.used(), 0)
        self.assertEqual(heap.graph(), ([None, None, None], []))

    def test_heaps_have_words_of_their_own(self):
        heap = Halves(6, 1)
        other = Halves(6, 1)
        heap.make(0, 2)
        self.assertEqual((other.top, other.roots), (0, [None]))

    def test_no_roots(self):
        heap = Halves(4, 0)
        self.assertEqual(heap.graph(), ([], []))
        self.assertEqual(heap.collect(), 0)


class MakeTest(CopyingTest):
    """Promises 26 and 27."""

    def test_words(self):
        heap = Halves(10, 2)
        self.assertIsNone(heap.make(0, 3))
        self.assertEqual((heap.words[0:4], heap.top, heap.roots), ([-4, 0, 0, 0], 4, [0, None]))
        heap.make(1, 1)
        self.assertEqual((heap.words[4:6], heap.top, heap.roots), ([-2, 0], 6, [0, 4]))
        self.assertIsNone(heap.put_number(0, 0, 0))
        heap.put_number(0, 1, 7)
        self.assertIsNone(heap.put_object(0, 2, 1))
        heap.put_object(1, 0, 0)
        self.assertEqual(heap.words[0:6], [-4, 2, 16, 9, -2, 1])
        self.assertIsNone(heap.put_null(0, 1))
        self.assertEqual(heap.words[0:6], [-4, 2, 0, 9, -2, 1])
        self.assertEqual(heap.used(), 6)

    def test_an_object_without_fields(self):
        heap = Halves(2, 2)
        heap.make(0, 0)
        heap.make(1, 0)
        self.assertEqual((heap.words[0:2], heap.roots, heap.used()), ([-1, -1], [0, 1], 2))
        self.assertEqual(heap.graph(), ([0, 1], [[], []]))
        self.assert_raises(NoSuchField, "index", 0, lambda: heap.read(0, 0), heap)

    def test_a_root_that_gets_another_object(self):
        heap = Halves(10, 1)
        heap.make(0, 1)
        heap.put_number(0, 0, 5)
        heap.make(0, 2)
        self.assertEqual((heap.roots, heap.used()), ([2], 5))
        self.assertEqual(heap.graph(), ([0], [[None, None]]))

    def test_an_object_that_just_has_room(self):
        heap = Halves(6, 2)
        heap.make(0, 2)
        heap.make(1, 2)
        self.assertEqual((heap.base, heap.used(), heap.roots), (0, 6, [0, 3]))

    def test_a_collection_that_frees_enough(self):
        heap = Halves(6, 2)
        heap.make(0, 2)
        heap.make(1, 1)
        heap.put_number(1, 0, 4)
        heap.drop(0)
        heap.make(0, 3)
        self.assertEqual((heap.base, heap.top, heap.roots), (6, 12, [8, 6]))
        self.assertEqual(heap.words[6:12], [-2, 10, -4, 0, 0, 0])

    def test_the_fields_are_null_where_other_words_were(self):
        heap = Halves(4, 1)
        for number in range(6):
            heap.drop(0)
            heap.make(0, 3)
            self.assertEqual(heap.graph(), ([0], [[None, None, None]]))
            for index in range(3):
                heap.put_number(0, index, 50 + number)

    def test_the_root_holds_its_old_object_until_the_new_one_is_made(self):
        heap = Halves(6, 1)
        heap.make(0, 3)
        heap.put_number(0, 1, 4)
        with self.assertRaises(OutOfMemory) as caught:
            heap.make(0, 2)
        self.assertEqual(caught.exception.length, 2)
        self.assertEqual((heap.base, heap.top, heap.roots), (6, 10, [6]))
        self.assertEqual(heap.graph(), ([0], [[None, 4, None]]))
        heap.drop(0)
        heap.make(0, 2)
        self.assertEqual((heap.base, heap.used(), heap.roots), (0, 3, [0]))

    def test_the_collection_stays_done(self):
        heap = Halves(6, 2)
        heap.make(0, 1)
        heap.make(1, 1)
        heap.drop(0)
        with self.assertRaises(OutOfMemory) as caught:
            heap.make(0, 4)
        self.assertEqual(caught.exception.length, 4)
        self.assertIsInstance(caught.exception, HeapgameError)
        self.assertEqual((heap.base, heap.top, heap.roots), (6, 8, [None, 6]))
        heap.make(0, 3)
        self.assertEqual((heap.base, heap.top, heap.roots), (6, 12, [8, 6]))

    def test_an_object_that_never_has_room(self):
        heap = Halves(3, 1)
        for base in (3, 0, 3):
            with self.assertRaises(OutOfMemory) as caught:
                heap.make(0, 3)
            self.assertEqual(caught.exception.length, 3)
            self.assertEqual((heap.base, heap.top, heap.roots), (base, base, [None]))
        heap.make(0, 2)
        self.assertEqual(heap.roots, [3])


class FieldsTest(CopyingTest):
    def test_reading(self):
        heap = Halves(12, 2)
        heap.make(0, 4)
        heap.make(1, 0)
        heap.put_number(0, 1, 0)
        heap.put_number(0, 2, 10 ** 20)
        heap.put_object(0, 3, 1)
        self.assertEqual([heap.read(0, index) for index in range(4)], [None, 0, 10 ** 20, "object"])

    def test_dropping(self):
        heap = Halves(6, 2)
        heap.make(0, 1)
        self.assertIsNone(heap.drop(0))
        self.assertIsNone(heap.drop(1))
        self.assertEqual((heap.roots, heap.used()), ([None, None], 2))

    def test_loading(self):
        heap = Halves(12, 3)
        heap.make(0, 3)
        heap.make(1, 1)
        heap.put_object(0, 2, 1)
        heap.put_number(0, 1, 3)
        heap.drop(1)
        self.assertIs(heap.load(2, 0, 2), True)
        self.assertEqual(heap.roots, [0, None, 4])
        before = state_of(heap)
        self.assertIs(heap.load(2, 0, 0), False)
        self.assertIs(heap.load(2, 0, 1), False)
        self.assertIs(heap.load(1, 0, 1), False)
        self.assertEqual(state_of(heap), before)

    def test_loading_into_the_root_that_is_read(self):
        heap = Halves(12, 2)
        heap.make(0, 1)
        heap.make(1, 0)
        heap.put_object(0, 0, 1)
        self.assertIs(heap.load(0, 0, 0), True)
        self.assertEqual(heap.roots, [2, 2])

    def test_no_object(self):
        heap = Halves(12, 3)
        heap.make(1, 2)
        for call in (lambda: heap.read(0, 0), lambda: heap.load(1, 0, 0), lambda: heap.load(0, 0, 0),
                     lambda: heap.put_null(0, 0), lambda: heap.put_number(0, 0, 1), lambda: heap.put_object(0, 0, 1),
                     lambda: heap.put_object(0, 0, 0), lambda: heap.put_object(1, 0, 0),
                     lambda: heap.put_object(1, 1, 0)):
            self.assert_raises(NoSuchObject, "number", 0, call, heap)

    def test_no_field(self):
        heap = Halves(12, 3)
        heap.make(0, 2)
        heap.make(1, 3)
        for index in (-1, 2, 3, -3, 60):
            for call in (lambda: heap.read(0, index), lambda: heap.load(1, 0, index), lambda: heap.put_null(0, index),
                         lambda: heap.put_number(0, index, 1), lambda: heap.put_object(0, index, 1)):
                self.assert_raises(NoSuchField, "index", index, call, heap)

    def test_the_order_of_the_errors(self):
        heap = Halves(12, 4)
        heap.make(0, 2)
        self.assert_raises(NoSuchObject, "number", 1, lambda: heap.put_object(1, 9, 2), heap)
        self.assert_raises(NoSuchObject, "number", 1, lambda: heap.put_object(1, 0, 2), heap)
        self.assert_raises(NoSuchField, "index", 2, lambda: heap.put_object(0, 2, 3), heap)
        self.assert_raises(NoSuchObject, "number", 3, lambda: heap.put_object(0, 1, 3), heap)
        self.assert_raises(NoSuchObject, "number", 2, lambda: heap.read(2, 9), heap)
        self.assert_raises(NoSuchObject, "number", 2, lambda: heap.load(3, 2, 9), heap)
        self.assert_raises(NoSuchField, "index", 9, lambda: heap.load(3, 0, 9), heap)


class CollectTest(CopyingTest):
    """Promises 28 to 30."""

    def test_the_order_of_the_copies(self):
        heap = Halves(30, 3)
        heap.make(2, 1)
        heap.make(0, 2)
        heap.make(1, 3)
        heap.put_object(0, 1, 2)
        heap.put_object(1, 1, 0)
        heap.put_object(1, 2, 2)
        heap.put_number(1, 0, 8)
        heap.drop(0)
        heap.drop(2)
        self.assertEqual(heap.collect(), 9)
        self.assertEqual((heap.base, heap.top, heap.roots), (30, 39, [None, 30, None]))
        self.assertEqual(heap.words[30:39], [-4, 18, 69, 75, -3, 0, 75, -2, 0])
        self.assertEqual(heap.graph(), ([None, 0, None], [[8, (1,), (2,)], [None, (2,)], [None]]))

    def test_the_objects_of_the_roots_come_first(self):
        heap = Halves(20, 3)
        heap.make(0, 0)
        heap.make(1, 1)
        heap.make(2, 0)
        heap.put_object(1, 0, 0)
        heap.drop(0)
        heap.collect()
        self.assertEqual(heap.words[20:24], [-2, 47, -1, -1])
        self.assertEqual(heap.roots, [None, 20, 22])
        self.assertEqual(heap.graph(), ([None, 0, 1], [[(2,)], [], []]))

    def test_breadth_comes_before_depth(self):
        heap = Halves(30, 4)
        heap.make(0, 2)
        heap.make(1, 1)
        heap.make(2, 0)
        heap.make(3, 2)
        heap.put_object(0, 0, 1)
        heap.put_object(0, 1, 3)
        heap.put_object(1, 0, 2)
        for root in (1, 2, 3):
            heap.drop(root)
        heap.collect()
        self.assertEqual(heap.graph(), ([0, None, None, None], [[(1,), (2,)], [(3,)], [None, None], []]))
        self.assert_collected(heap)
        self.assertEqual([heap.words[30], heap.words[33], heap.words[35], heap.words[38]], [-3, -2, -3, -1])

    def test_the_headers_of_copied_objects_become_the_addresses_of_their_copies(self):
        heap = Halves(12, 3)
        heap.make(0, 1)
        heap.make(1, 2)
        heap.make(2, 1)
        heap.put_object(2, 0, 0)
        heap.drop(0)
        heap.drop(1)
        heap.collect()
        self.assertEqual(heap.roots, [None, None, 12])
        self.assertEqual([heap.words[0], heap.words[2], heap.words[5]], [14, -3, 12])

    def test_collecting_again_goes_back_to_the_first_half(self):
        heap = Halves(6, 1)
        heap.make(0, 1)
        heap.put_object(0, 0, 0)
        self.assertEqual((heap.collect(), heap.base, heap.roots), (2, 6, [6]))
        self.assertEqual(heap.words[6:8], [-2, 13])
        self.assertEqual((heap.collect(), heap.base, heap.roots), (2, 0, [0]))
        self.assertEqual(heap.words[0:2], [-2, 1])
        self.assertEqual(heap.words[6], 0)

    def test_shared_objects_and_roots_that_hold_the_same_one(self):
        heap = Halves(20, 3)
        heap.make(0, 0)
        heap.make(1, 2)
        heap.put_object(1, 0, 0)
        heap.put_object(1, 1, 0)
        heap.load(2, 1, 0)
        before = heap.graph()
        self.assertEqual(before, ([0, 1, 0], [[], [(0,), (0,)]]))
        self.assertEqual(heap.collect(), 4)
        self.assertEqual(heap.graph(), before)
        self.assertEqual(heap.roots, [20, 21, 20])
        self.assert_collected(heap)

    def test_rings_and_objects_that_refer_to_themselves(self):
        heap = Halves(20, 3)
        for root in range(3):
            heap.make(root, 2)
        for root in range(3):
            heap.put_object(root, 0, (root + 1) % 3)
        heap.put_object(2, 1, 2)
        heap.drop(1)
        heap.drop(2)
        before = heap.graph()
        self.assertEqual(before, ([0, None, None], [[(1,), None], [(2,), None], [(0,), (2,)]]))
        self.assertEqual(heap.collect(), 9)
        self.assertEqual(heap.graph(), before)
        self.assert_collected(heap)

    def test_a_ring_that_nothing_reaches(self):
        heap = Halves(20, 2)
        heap.make(0, 1)
        heap.make(1, 1)
        heap.put_object(0, 0, 1)
        heap.put_object(1, 0, 0)
        heap.drop(0)
        heap.drop(1)
        self.assertEqual(heap.collect(), 0)
        self.assertEqual((heap.base, heap.top), (20, 20))

    def test_nothing_and_everything_is_collected(self):
        heap = Halves(4, 1)
        self.assertEqual((heap.collect(), heap.base, heap.top), (0, 4, 4))
        heap.make(0, 3)
        self.assertEqual((heap.collect(), heap.base, heap.top), (4, 0, 4))

    def test_a_long_list_of_objects(self):
        heap = Halves(4000, 2)
        heap.make(1, 0)
        for number in range(1500):
            # What the root held before is still reached, through the object of the other root.
            root = number % 2
            heap.make(root, 1)
            heap.put_object(root, 0, 1 - root)
        heap.drop(0)
        self.assertEqual(len(heap.graph()[1]), 1501)
        self.assertEqual(heap.collect(), 3001)
        self.assert_collected(heap)

    def test_runs_of_all_operations(self):
        for seed in range(40):
            chooser = random.Random(seed)
            size = chooser.choice([5, 9, 16, 30])
            heap = Halves(size, 4)
            model = Model(size, 4)
            for _ in range(150):
                self.take_step(heap, model, chooser)
                self.assertEqual(heap.graph(), model.graph())
                self.assertEqual(heap.used(), model.used)
                self.assertEqual(heap.base, size * (model.collections % 2))

    def take_step(self, heap, model, chooser):
        root, other = chooser.randrange(4), chooser.randrange(4)
        kind = chooser.choice(["make", "make", "drop", "collect", "put", "put", "put", "load"])
        if kind == "make":
            many = chooser.randrange(5)
            if model.make(root, many):
                heap.make(root, many)
            else:
                with self.assertRaises(OutOfMemory) as caught:
                    heap.make(root, many)
                self.assertEqual(caught.exception.length, many)
                self.assert_collected(heap)
        elif kind == "drop":
            heap.drop(root)
            model.roots[root] = None
        elif kind == "collect":
            self.assertEqual(heap.collect(), model.collect())
            self.assert_collected(heap)
        else:
            self.take_field_step(heap, model, chooser, kind, root, other)

    def take_field_step(self, heap, model, chooser, kind, root, other):
        read = other if kind == "load" else root
        if model.roots[read] is None or not model.roots[read].fields:
            return
        fields = model.roots[read].fields
        index = chooser.randrange(len(fields))
        told = "object" if isinstance(fields[index], Thing) else fields[index]
        self.assertEqual(heap.read(read, index), told)
        if kind == "load":
            self.assertIs(heap.load(root, other, index), told == "object")
            if told == "object":
                model.roots[root] = fields[index]
            return
        value = chooser.choice([None, chooser.randrange(9), model.roots[other]])
        if value is None:
            heap.put_null(root, index)
        elif isinstance(value, Thing):
            heap.put_object(root, index, other)
        else:
            heap.put_number(root, index, value)
        fields[index] = value


class ListsTest(CopyingTest):
    """Promise 3."""

    def test_the_graph_is_made_of_new_lists(self):
        heap = Halves(20, 2)
        heap.make(0, 2)
        heap.put_object(0, 1, 0)
        before = state_of(heap)
        roots, fields = heap.graph()
        roots.append(7)
        fields[0].append(8)
        fields.append([9])
        self.assertEqual(heap.graph(), ([0, None], [[None, (0,)]]))
        self.assertEqual(state_of(heap), before)

    def test_asking_changes_nothing(self):
        heap = Halves(20, 2)
        heap.make(0, 2)
        before = state_of(heap)
        heap.used()
        heap.graph()
        heap.read(0, 1)
        self.assertEqual(state_of(heap), before)


if __name__ == "__main__":
    unittest.main()
