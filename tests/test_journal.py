"""Records, recovery, devices and journaled heaps: promises 54 to 57, and 3 over them."""

import copy
import inspect
import itertools
import random
import time
import unittest

from heapgame import journal
from heapgame.errors import (
    HeapgameError, NoRoom, NoSuchObject, NotAllowed, OutOfMemory, PowerCut, ShutError, StillUsed, StrategyDecides)
from heapgame.heap import ManagedHeap, contract_heap, policy_heap, replay
from heapgame.journal import Device, JournaledHeap, event_read, opened, record_of, recovered
from heapgame.layouts import Contract

INTERFACE = {
    "record_of": ["event"],
    "event_read": ["body"],
    "recovered": ["octets"],
    "Device": ["octets", "power"],
    "JournaledHeap": ["heap", "device"],
    "opened": ["heap", "octets", "power"],
}
METHODS = {
    Device: {"append": ["octet"]},
    JournaledHeap: {"change": ["event"]},
}


def to(number):
    return ("object", number)


# Each kind of change with its record, written by hand.
RECORDS = (
    (("allocate", 2), [4, 0, 0, 2, 170]),
    (("allocate", 64), [4, 0, 0, 64, 170]),
    (("write", 0, 0, None), [9, 1, 0, 0, 0, 0, 0, 0, 0, 170]),
    (("write", 258, 3, 0), [9, 1, 1, 2, 0, 3, 1, 0, 0, 170]),
    (("write", 1, 300, 65535), [9, 1, 0, 1, 1, 44, 1, 255, 255, 170]),
    (("write", 43690, 170, 43690), [9, 1, 170, 170, 0, 170, 1, 170, 170, 170]),
    (("write", 65535, 63, to(0)), [9, 1, 255, 255, 0, 63, 2, 0, 0, 170]),
    (("write", 7, 1, to(65534)), [9, 1, 0, 7, 0, 1, 2, 255, 254, 170]),
    (("release", 256), [4, 2, 1, 0, 170]),
    (("addRoot", 255), [4, 3, 0, 255, 170]),
    (("removeRoot", 65535), [4, 4, 255, 255, 170]),
    (("collect",), [2, 5, 170]),
    (("compact",), [2, 6, 170]),
    (("makeRoom", 170), [4, 7, 0, 170, 170]),
    (("slide",), [2, 8, 170]),
)
CHANGES = [
    ("allocate", 1), ("allocate", 2), ("write", 1, 0, to(0)), ("write", 0, 0, 43690), ("addRoot", 1), ("allocate", 1),
    ("write", 1, 0, None), ("release", 0), ("slide",), ("makeRoom", 2), ("removeRoot", 2), ("compact",), ("collect",)]


def heap_of(size=5):
    return policy_heap(size, "next")


def contents(heap):
    return (heap.objects(), heap.words(), heap.log(), heap.layout(), dict(heap.state.starts), heap.state.cursor,
            copy.deepcopy(heap.state.store.objects), heap.state.store.next_number)


def octets_of(events):
    return [octet for event in events for octet in record_of(event)]


class InterfaceTest(unittest.TestCase):
    def test_names_and_arguments(self):
        for name, arguments in INTERFACE.items():
            found = getattr(journal, name)
            self.assertEqual(list(inspect.signature(found).parameters), arguments, name)
            self.assertEqual(found.__module__, "heapgame.journal")
        for kind, methods in METHODS.items():
            for name, arguments in methods.items():
                self.assertEqual(list(inspect.signature(vars(kind)[name]).parameters)[1:], arguments, name)

    def test_fields_are_set_at_once(self):
        device = Device([1, 2], 5)
        self.assertEqual((device.octets, device.power), ([1, 2], 5))
        heap = heap_of()
        journaled = JournaledHeap(heap, device)
        self.assertIs(journaled.heap, heap)
        self.assertIs(journaled.device, device)
        self.assertIs(journaled.shut, False)


class RecordsTest(unittest.TestCase):
    """Promise 54."""

    def test_a_record_of_each_kind_and_back(self):
        for event, record in RECORDS:
            self.assertEqual(record_of(event), record)
            self.assertEqual(event_read(record[1:-1]), event)

    def test_numbers_of_two_octets(self):
        for number in [0, 1, 255, 256, 257, 511, 512, 4660, 65280, 65535]:
            pair = [number // 256, number % 256]
            self.assertEqual(record_of(("release", number)), [4, 2] + pair + [170])
            self.assertEqual(event_read([2] + pair), ("release", number))
            self.assertEqual(event_read([1] + pair * 2 + [1] + pair), ("write", number, number, number))
            self.assertEqual(event_read([1] + pair * 2 + [2] + pair), ("write", number, number, to(number)))

    def test_numbers_beyond_two_octets_raise_nothing(self):
        for event in (("write", 0, 0, 65536), ("write", 0, 0, -1), ("release", 70000)):
            self.assertTrue(all(octet in range(256) for octet in record_of(event)))

    def test_no_octets(self):
        self.assertIsNone(event_read([]))

    def test_a_word_that_no_change_has(self):
        for word in range(9, 256):
            for rest in ([], [0, 1], [0, 1, 0, 0, 1, 0, 5]):
                self.assertIsNone(event_read([word] + rest))

    def test_a_length_that_no_change_has(self):
        lengths = {0: 3, 1: 8, 2: 3, 3: 3, 4: 3, 5: 1, 6: 1, 7: 3, 8: 1}
        for word, length in lengths.items():
            for other in range(1, 13):
                found = event_read([word] + [0] * (other - 1))
                self.assertEqual(found is not None, other == length, (word, other))

    def test_a_kind_of_field_that_no_change_has(self):
        for kind in range(256):
            for value in ([0, 0], [0, 1], [1, 0], [255, 255]):
                found = event_read([1, 0, 4, 0, 2, kind] + value)
                number = 256 * value[0] + value[1]
                expected = {0: None if number else ("write", 4, 2, None), 1: ("write", 4, 2, number),
                            2: ("write", 4, 2, to(number))}.get(kind)
                self.assertEqual(found, expected)

    def test_all_short_bodies_that_are_changes_are_those_of_their_records(self):
        for length in range(4):
            for body in itertools.product((0, 1, 2, 5, 7, 8, 9, 170, 255), repeat=length):
                event = event_read(list(body))
                if event is not None:
                    self.assertEqual(record_of(event), [length + 1] + list(body) + [170])
        chance = random.Random(1)
        for _ in range(3000):
            body = [1] + [chance.choice((0, 1, 2, 3, 255)) for _ in range(7)]
            event = event_read(body)
            self.assertEqual(event is not None, body[5] in (1, 2) or body[5:] == [0, 0, 0])
            if event is not None:
                self.assertEqual(record_of(event), [9] + body + [170])


class RecoveredTest(unittest.TestCase):
    """Promise 55."""

    def test_nothing_and_everything(self):
        self.assertEqual(recovered([]), ([], 0))
        events = [event for event, _ in RECORDS]
        octets = [octet for _, record in RECORDS for octet in record]
        self.assertEqual(recovered(octets), (events, len(octets)))

    def test_records_that_are_cut_at_each_octet(self):
        octets = octets_of(CHANGES)
        ends = [0] + list(itertools.accumulate(len(record_of(event)) for event in CHANGES))
        for cut in range(len(octets) + 1):
            whole = max(at for at, end in enumerate(ends) if end <= cut)
            self.assertEqual(recovered(octets[:cut]), (CHANGES[:whole], ends[whole]))

    def test_an_octet_that_is_not_170_at_the_end(self):
        for event, record in RECORDS:
            for octet in (0, 9, 169, 171, 255):
                wrong = record[:-1] + [octet]
                self.assertEqual(recovered(wrong), ([], 0))
                self.assertEqual(recovered(wrong + record), ([], 0))
                self.assertEqual(recovered([2, 5, 170] + wrong + record), ([("collect",)], 3))

    def test_records_that_are_whole_but_no_changes(self):
        for wrong in ([1, 170], [2, 9, 170], [2, 170, 170], [2, 0, 170], [3, 0, 1, 170], [5, 0, 0, 0, 2, 170],
                      [3, 5, 5, 170], [4, 8, 0, 1, 170], [9, 1, 0, 0, 0, 0, 3, 0, 0, 170],
                      [9, 1, 0, 0, 0, 0, 0, 0, 1, 170], [8, 1, 0, 0, 0, 0, 1, 0, 170], [0], [0, 170], [170]):
            self.assertEqual(recovered(wrong), ([], 0), wrong)
            self.assertEqual(recovered([4, 0, 0, 2, 170] + wrong + [2, 5, 170]), ([("allocate", 2)], 5), wrong)

    def test_a_length_that_does_not_fit_the_change(self):
        for event, record in RECORDS:
            for more in (-1, 1, 2, 100):
                self.assertEqual(recovered([record[0] + more] + record[1:]), ([], 0))
                self.assertEqual(recovered([record[0] + more] + record[1:] + [170] * 120), ([], 0))

    def test_octets_behind_the_last_whole_record(self):
        octets = octets_of(CHANGES[:3])
        for rest in ([0], [170], [255], [4], [4, 0, 0, 1], [2, 5], [2, 5, 0], [9, 1, 0, 0, 0, 0, 1, 0, 170]):
            self.assertEqual(recovered(octets + rest), (CHANGES[:3], len(octets)))


class DeviceTest(unittest.TestCase):
    """Promise 56."""

    def test_the_power_lasts_for_so_many_octets(self):
        device = Device([9, 9], 3)
        for octet, power in ((5, 2), (0, 1), (255, 0)):
            self.assertIsNone(device.append(octet))
            self.assertEqual(device.power, power)
        self.assertEqual(device.octets, [9, 9, 5, 0, 255])
        for _ in range(2):
            with self.assertRaises(PowerCut) as caught:
                device.append(6)
            self.assertEqual(caught.exception.written, 5)
            self.assertEqual((device.octets, device.power), ([9, 9, 5, 0, 255], 0))

    def test_no_power_at_all(self):
        device = Device([], 0)
        with self.assertRaises(PowerCut) as caught:
            device.append(6)
        self.assertEqual((caught.exception.written, device.octets), (0, []))

    def test_the_octets_that_are_passed_in_stay(self):
        octets = [1, 2]
        device = Device(octets, 2)
        device.append(3)
        self.assertEqual((octets, device.octets), ([1, 2], [1, 2, 3]))
        octets.append(4)
        self.assertEqual(device.octets, [1, 2, 3])


class JournaledTest(unittest.TestCase):
    def assert_raises(self, journaled, event, expected):
        """The change raises this error, and changes nothing."""
        before = (contents(journaled.heap), list(journaled.device.octets), journaled.device.power, journaled.shut)
        with self.assertRaises(expected.__class__) as caught:
            journaled.change(event)
        self.assertEqual(vars(caught.exception), vars(expected))
        self.assertIsInstance(caught.exception, HeapgameError)
        self.assertEqual((contents(journaled.heap), journaled.device.octets, journaled.device.power, journaled.shut),
                         before)

    def told(self, journaled, events):
        """The changes that were told as made, up to PowerCut."""
        for at, event in enumerate(events):
            try:
                journaled.change(event)
            except PowerCut as error:
                self.assertEqual(error.written, len(journaled.device.octets))
                return events[:at]
        return events

    def behind(self, events):
        heap = heap_of()
        self.assertEqual(replay(heap, events), (len(events), None))
        return contents(heap)


class ChangeTest(JournaledTest):
    """Promise 56."""

    def test_it_returns_what_the_heap_returns(self):
        heap = heap_of()
        journaled = JournaledHeap(heap_of(), Device([], 1000))
        for at, event in enumerate(CHANGES):
            self.assertEqual(journaled.change(event), heap.change(event))
            self.assertEqual(journaled.device.octets, octets_of(CHANGES[:at + 1]))
            self.assertEqual(contents(journaled.heap), contents(heap))
        self.assertEqual(journaled.device.power, 1000 - len(octets_of(CHANGES)))

    def test_records_are_written_behind_those_that_are_there(self):
        journaled = JournaledHeap(heap_of(), Device([4, 4], 100))
        journaled.change(("allocate", 3))
        journaled.change(("collect",))
        self.assertEqual(journaled.device.octets, [4, 4, 4, 0, 0, 3, 170, 2, 5, 170])

    def test_changes_that_make_no_difference_are_written(self):
        journaled = JournaledHeap(heap_of(), Device([], 100))
        journaled.change(("allocate", 1))
        self.assertIs(journaled.change(("removeRoot", 0)), False)
        journaled.change(("write", 0, 0, None))
        self.assertEqual(recovered(journaled.device.octets)[0], journaled.heap.log())
        self.assertEqual(len(journaled.heap.log()), 3)

    def test_a_slide_that_moves_nothing_writes_nothing(self):
        for power in (0, 5, 50):
            journaled = JournaledHeap(heap_of(), Device([], power))
            self.assertIsNone(journaled.change(("slide",)))
            self.assertEqual((journaled.device.octets, journaled.device.power, journaled.shut), ([], power, False))
        journaled.change(("allocate", 1))
        journaled.change(("slide",))
        self.assertEqual(journaled.device.octets, [4, 0, 0, 1, 170])

    def test_what_raises_writes_nothing(self):
        for power in (14, 100):
            journaled = JournaledHeap(heap_of(), Device([], power))
            for event in (("allocate", 2), ("addRoot", 0)):
                journaled.change(event)
            for event, error in ((("allocate", 4), OutOfMemory(4)), (("release", 0), StillUsed(0, "root")),
                                 (("release", 1), NoSuchObject(1)), (("write", 0, 1, to(3)), NoSuchObject(3)),
                                 (("makeRoom", 4), NoRoom(4))):
                self.assert_raises(journaled, event, error)
        journaled = JournaledHeap(contract_heap(Contract(4, 4, [1, 2], 1)), Device([], 100))
        for event, error in ((("slide",), StrategyDecides()), (("allocate", 3), NotAllowed(3))):
            self.assert_raises(journaled, event, error)
        self.assertEqual(journaled.device.octets, [])

    def test_shut_behind_a_power_cut(self):
        journaled = JournaledHeap(heap_of(), Device([], 7))
        self.assertEqual(journaled.change(("allocate", 1)), 0)
        with self.assertRaises(PowerCut) as caught:
            journaled.change(("addRoot", 0))
        self.assertEqual(caught.exception.written, 7)
        self.assertEqual(journaled.device.octets, [4, 0, 0, 1, 170, 4, 3])
        self.assertIs(journaled.shut, True)
        for event in (("allocate", 1), ("addRoot", 0), ("collect",), ("slide",), ("release", 9), ("allocate", 99)):
            self.assert_raises(journaled, event, ShutError())
        journaled.device.power = 100
        self.assert_raises(journaled, ("allocate", 1), ShutError())

    def test_power_for_exactly_one_record(self):
        journaled = JournaledHeap(heap_of(), Device([], 5))
        journaled.change(("allocate", 1))
        self.assertIs(journaled.shut, False)
        self.assertIsNone(journaled.change(("slide",)))
        self.assert_raises(journaled, ("allocate", 9), OutOfMemory(9))
        with self.assertRaises(PowerCut) as caught:
            journaled.change(("collect",))
        self.assertEqual(caught.exception.written, 5)
        self.assert_raises(journaled, ("collect",), ShutError())

    def test_a_change_is_made_before_it_is_recorded(self):
        journaled = JournaledHeap(heap_of(), Device([], 2))
        self.assertRaises(PowerCut, journaled.change, ("allocate", 1))
        self.assertEqual(journaled.heap.objects(), ([0], []))


class PowerTest(JournaledTest):
    """Promise 57."""

    def test_the_power_goes_at_each_octet(self):
        octets = octets_of(CHANGES)
        for power in range(len(octets) + 2):
            journaled = JournaledHeap(heap_of(), Device([], power))
            told = self.told(journaled, CHANGES)
            self.assertEqual(journaled.shut, power < len(octets))
            self.assertEqual(journaled.device.octets, octets[:power])
            self.assertEqual(recovered(journaled.device.octets), (told, len(octets_of(told))))
            again = opened(heap_of(), journaled.device.octets, 1000)
            self.assertEqual(contents(again.heap), self.behind(told))
            self.assertEqual(again.device.octets, octets_of(told))

    def test_a_journal_that_is_opened_again_and_again(self):
        for power in range(1, 30):
            octets, told = [], []
            for _ in range(200):
                journaled = opened(heap_of(), octets, power)
                self.assertEqual(contents(journaled.heap), self.behind(told))
                self.assertEqual(journaled.device.power, power)
                told = told + self.told(journaled, CHANGES[len(told):])
                octets = journaled.device.octets
                self.assertEqual(recovered(octets)[0], told)
                if told == CHANGES:
                    break
            # A record of ten octets needs that much power at once.
            self.assertEqual(told, CHANGES if power >= 10 else CHANGES[:2] if power >= 5 else [])

    def test_a_heap_with_a_contract(self):
        events = [("allocate", 1), ("allocate", 1), ("allocate", 1), ("release", 1), ("write", 2, 0, to(0)),
                  ("allocate", 1), ("allocate", 1), ("addRoot", 2), ("collect",), ("allocate", 2)]
        manager = contract_heap(Contract(4, 4, [1, 2], 1)).manager
        whole = ManagedHeap(manager)
        self.assertEqual(replay(whole, events), (len(events), None))
        for power in range(len(octets_of(events)) + 1):
            journaled = JournaledHeap(ManagedHeap(manager), Device([], power))
            told = self.told(journaled, events)
            again = opened(ManagedHeap(manager), journaled.device.octets, 1000)
            self.assertEqual(again.heap.log(), told)
            for event in events[len(told):]:
                again.change(event)
            self.assertEqual(contents(again.heap), contents(whole))


class OpenedTest(JournaledTest):
    """Promises 55 and 56."""

    def test_no_octets(self):
        heap = heap_of()
        journaled = opened(heap, [], 7)
        self.assertIs(journaled.heap, heap)
        self.assertIsInstance(journaled, JournaledHeap)
        self.assertIsInstance(journaled.device, Device)
        self.assertEqual((heap.log(), journaled.device.octets, journaled.device.power, journaled.shut),
                         ([], [], 7, False))

    def test_the_rest_is_cut_off(self):
        octets = octets_of(CHANGES[:4])
        for rest in ([], [4], [4, 0, 0, 1], [2, 5, 0, 2, 5, 170], [170]):
            journaled = opened(heap_of(), octets + rest, 50)
            self.assertEqual(journaled.device.octets, octets)
            self.assertEqual(contents(journaled.heap), self.behind(CHANGES[:4]))
            self.assertIs(journaled.shut, False)
            journaled.change(("addRoot", 0))
            self.assertEqual(journaled.device.octets, octets + [4, 3, 0, 0, 170])
            self.assertEqual(journaled.device.power, 45)

    def test_a_change_that_raises_in_this_heap(self):
        for events, kind in (([("allocate", 6)], OutOfMemory), ([("allocate", 1), ("release", 1)], NoSuchObject),
                             ([("allocate", 1), ("addRoot", 0), ("release", 0), ("collect",)], StillUsed)):
            heap = heap_of()
            with self.assertRaises(HeapgameError) as caught:
                opened(heap, octets_of(events), 50)
            self.assertIsInstance(caught.exception, kind)
            # The heap is empty again, so that another journal can be opened with it.
            self.assertEqual(contents(heap), contents(heap_of()))
        with self.assertRaises(HeapgameError):
            opened(contract_heap(Contract(4, 4, [1, 2], 1)), octets_of([("allocate", 1), ("compact",)]), 50)
        self.assertEqual(opened(heap_of(6), octets_of([("allocate", 6)]), 0).heap.layout(), [(0, 6)])

    def test_the_octets_that_are_passed_in_stay(self):
        octets = octets_of(CHANGES[:2]) + [4, 0]
        before = list(octets)
        journaled = opened(heap_of(), octets, 50)
        journaled.change(("collect",))
        recovered(octets)
        event_read(octets)
        self.assertEqual(octets, before)

    def test_each_list_that_is_returned_is_a_new_one(self):
        first = record_of(("collect",))
        first.append("changed")
        self.assertEqual(record_of(("collect",)), [2, 5, 170])
        octets = octets_of(CHANGES)
        recovered(octets)[0].append("changed")
        self.assertEqual(recovered(octets), (CHANGES, len(octets)))


class TimeTest(unittest.TestCase):
    def test_long_journals_take_seconds(self):
        before = time.process_time()
        journaled = JournaledHeap(heap_of(), Device([], 10 ** 9))
        for number in range(20000):
            journaled.change(("allocate", 1))
            journaled.change(("release", number))
        octets = journaled.device.octets
        self.assertEqual(len(opened(heap_of(), octets, 0).heap.log()), 40000)
        self.assertLess(time.process_time() - before, 20)


if __name__ == "__main__":
    unittest.main()
