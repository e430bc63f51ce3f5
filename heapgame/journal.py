"""Journals: the changes of a heap as octets on a device that may lose its power, and what is recovered from them."""

from heapgame.errors import HeapgameError, PowerCut, ShutError
from heapgame.heap import is_change

WORDS = ("allocate", "write", "release", "addRoot", "removeRoot", "collect", "compact", "makeRoom", "slide")
# How many numbers a change has, by its word; the value of a write is not counted.
NUMBERS = (1, 2, 1, 1, 1, 0, 0, 1, 0)
WRITE = "write"
OBJECT = "object"
NOTHING = 0
INTEGER = 1
REFERENCE = 2
END = 170


def record_of(event):
    """Return the octets of a change."""
    word, *numbers = event
    body = [WORDS.index(word)]
    value = _octets_of_value(numbers.pop()) if word == WRITE else []
    for number in numbers:
        body.extend(_octets_of(number))
    body = body + value + [END]
    return [len(body)] + body


def event_read(body):
    """Return the change of the octets between the first one of a record and the 170, or None."""
    if not body or body[0] >= len(WORDS):
        return None
    word = WORDS[body[0]]
    end = 1 + 2 * NUMBERS[body[0]]
    if len(body) != end + (3 if word == WRITE else 0):
        return None
    numbers = [_number_at(body, place) for place in range(1, end, 2)]
    if word != WRITE:
        return (word, *numbers)
    kind = body[end]
    value = _number_at(body, end + 1)
    if kind == NOTHING and value == 0:
        return (word, *numbers, None)
    if kind == INTEGER:
        return (word, *numbers, value)
    return (word, *numbers, (OBJECT, value)) if kind == REFERENCE else None


def recovered(octets):
    """Return the changes of the whole records at the beginning, and how many octets these take."""
    changes = []
    taken = 0
    while taken < len(octets):
        end = taken + 1 + octets[taken]
        if end > len(octets) or octets[end - 1] != END:
            break
        event = event_read(octets[taken + 1:end - 1])
        if event is None:
            break
        changes.append(event)
        taken = end
    return changes, taken


class Device:
    """Octets that are only ever appended to, as long as there is power."""

    def __init__(self, octets, power):
        self.octets = list(octets)
        self.power = power

    def append(self, octet):
        """Write an octet behind the other ones; raise PowerCut(written)."""
        if self.power < 1:
            raise PowerCut(len(self.octets))
        self.power -= 1
        self.octets.append(octet)


class JournaledHeap:
    """A heap whose changes are recorded on a device behind being made; without power it is shut."""

    def __init__(self, heap, device):
        self.heap = heap
        self.device = device
        self.shut = False

    def change(self, event):
        """Make a change, record it, and return what the heap returns; raise PowerCut, ShutError, or as the heap."""
        if self.shut:
            raise ShutError()
        answer = self.heap.change(event)
        if is_change(event, answer):
            self._put_down(record_of(event))
        return answer

    def _put_down(self, record):
        try:
            for octet in record:
                self.device.append(octet)
        except PowerCut:
            self.shut = True
            raise


def opened(heap, octets, power):
    """Return the journaled heap of an empty heap and a device's octets; raise as the changes do in this heap."""
    changes, taken = recovered(octets)
    before = len(heap.log())
    try:
        for event in changes:
            heap.change(event)
    except HeapgameError:
        for _ in range(len(heap.log()) - before):
            heap.undo()
        raise
    return JournaledHeap(heap, Device(octets[:taken], power))


def _octets_of_value(value):
    if value is None:
        return [NOTHING, 0, 0]
    if isinstance(value, tuple):
        return [REFERENCE] + _octets_of(value[1])
    return [INTEGER] + _octets_of(value)


def _octets_of(number):
    return [number // 256 % 256, number % 256]


def _number_at(octets, place):
    return 256 * octets[place] + octets[place + 1]
