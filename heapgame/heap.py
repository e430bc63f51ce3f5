"""Managed heaps: objects with blocks that a policy or the manager's strategy places, undoing, a log and branches."""

from heapgame.errors import HeapgameError, Loses, NoRoom, NoSuchObject, OutOfMemory, StrategyDecides
from heapgame.games import Game
from heapgame.maps import relocation_map
from heapgame.moves import cheapest_room, first_slide, slide_left
from heapgame.placement import place_block
from heapgame.store import Store, target_of

FREE = "free"
REFERENCE = "reference"


class PolicyManager:
    """A policy in a heap of some size; it moves nothing, so that others may move blocks."""

    def __init__(self, size, policy):
        self.size = size
        self.policy = policy
        self.decides_moves = False

    def placement(self, layout, length, cursor):
        """Return the starts of all blocks, that of the new one, and the cursor then; raise OutOfMemory(length)."""
        start = place_block(self.size, layout, length, self.policy, cursor)
        if start is None:
            raise OutOfMemory(length)
        return [other for other, _ in layout], start, start + length


class StrategyManager:
    """The manager's strategy of a contract that the manager wins; it has no cursor, and no other one moves blocks."""

    def __init__(self, contract):
        self.size = contract.size
        self.decides_moves = True
        self.game = Game(contract)
        if self.game.winner() == "program":
            raise Loses()

    def placement(self, layout, length, cursor):
        """Return the starts of all blocks, that of the new one, and the cursor then; raise NotAllowed(length)."""
        starts, start, _ = self.game.manager_reply(layout, length)
        return starts, start, cursor


class State:
    """What a heap has at one time: objects, the starts of their blocks, and the cursor of the policy."""

    def __init__(self, store, starts, cursor):
        self.store = store
        self.starts = starts
        self.cursor = cursor

    def copy(self):
        """Return a state of its own that is alike."""
        return State(self.store.copy(), dict(self.starts), self.cursor)

    def layout(self):
        """Return the blocks of the objects, ascending."""
        return [(self.starts[number], len(self.store.objects[number])) for number in in_order(self.starts)]

    def relocate(self, starts):
        """Give the blocks of the layout, in their order, new starts."""
        self.starts = dict(zip(in_order(self.starts), starts))


def in_order(starts):
    """List the numbers of the objects in the order of the starts of their blocks."""
    return sorted(starts, key=lambda number: starts[number])


def _allocate(manager, state, length):
    starts, start, state.cursor = manager.placement(state.layout(), length, state.cursor)
    state.relocate(starts)
    number = state.store.make(length)
    state.starts[number] = start
    return number


def _write(manager, state, number, index, value):
    state.store.write(number, index, value)


def _release(manager, state, number):
    state.store.release(number)
    del state.starts[number]


def _add_root(manager, state, number):
    return state.store.add_root(number)


def _remove_root(manager, state, number):
    return state.store.remove_root(number)


def _collect(manager, state):
    removed = state.store.collect()
    for number in removed:
        del state.starts[number]
    return removed


def _compact(manager, state):
    _check_moves(manager)
    return _relocated(manager, state, [start for start, _ in slide_left(manager.size, state.layout())])


def _make_room(manager, state, length):
    _check_moves(manager)
    room = cheapest_room(manager.size, state.layout(), [], length)
    if room is None:
        raise NoRoom(length)
    return _relocated(manager, state, room[0])


def _slide(manager, state):
    _check_moves(manager)
    found = first_slide(state.layout())
    if found is None:
        return None
    index, goal = found
    number = in_order(state.starts)[index]
    start = state.starts[number]
    state.starts[number] = goal
    return number, start, goal


def _check_moves(manager):
    if manager.decides_moves:
        raise StrategyDecides()


def _relocated(manager, state, starts):
    pieces = relocation_map(manager.size, state.layout(), starts)
    state.relocate(starts)
    return pieces


# What each change does to a state; what it returns is what the method of the heap returns.
CHANGES = {
    "allocate": _allocate,
    "write": _write,
    "release": _release,
    "addRoot": _add_root,
    "removeRoot": _remove_root,
    "collect": _collect,
    "compact": _compact,
    "makeRoom": _make_room,
    "slide": _slide,
}


class ManagedHeap:
    """Objects in the cells of a heap, and all changes since it was empty."""

    def __init__(self, manager):
        self.manager = manager
        self.state = State(Store(), {}, 0)
        self._past = []

    def allocate(self, length):
        """Make an object with so many fields and return its number; raise OutOfMemory or NotAllowed(length)."""
        return self.change(("allocate", length))

    def write(self, number, index, value):
        """Write a field; raise NoSuchObject(number), NoSuchField(index), or NoSuchObject for the value's object."""
        return self.change(("write", number, index, value))

    def release(self, number):
        """Remove an object; raise NoSuchObject(number) or StillUsed(number, reason)."""
        return self.change(("release", number))

    def add_root(self, number):
        """Make an object a root, and tell whether that makes a difference; raise NoSuchObject(number)."""
        return self.change(("addRoot", number))

    def remove_root(self, number):
        """Make an object no root any more, and tell whether that makes a difference; raise NoSuchObject(number)."""
        return self.change(("removeRoot", number))

    def collect(self):
        """Remove all objects that the roots do not reach, and list their numbers, ascending."""
        return self.change(("collect",))

    def compact(self):
        """Slide all blocks left and return the address map; raise StrategyDecides."""
        return self.change(("compact",))

    def make_room(self, length):
        """Move blocks so that a new one fits and return the address map; raise StrategyDecides or NoRoom(length)."""
        return self.change(("makeRoom", length))

    def slide(self):
        """Slide one block; return its number, its start before and now, or None; raise StrategyDecides."""
        return self.change(("slide",))

    def change(self, event):
        """Make a change that is given as in the log, and return what its method returns."""
        word, *told = event
        perform = CHANGES[word]
        # No state is changed once the heap has it, so undoing and branches can take up earlier ones as they are.
        state = self.state.copy()
        answer = perform(self.manager, state, *told)
        if is_change(event, answer):
            self._past.append((event, self.state))
            self.state = state
        return answer

    def read(self, number, index):
        """Return a field; raise NoSuchObject(number) or NoSuchField(index)."""
        return self.state.store.read(number, index)

    def objects(self):
        """Return the numbers of all objects and those of the roots, ascending."""
        return self.state.store.numbers(), list(self.state.store.roots)

    def address_of(self, number):
        """Return the start of an object's block; raise NoSuchObject(number)."""
        if number not in self.state.starts:
            raise NoSuchObject(number)
        return self.state.starts[number]

    def layout(self):
        """Return the blocks of the objects, ascending."""
        return self.state.layout()

    def words(self):
        """List what the cells hold."""
        words = [FREE] * self.manager.size
        starts = self.state.starts
        for number, start in starts.items():
            fields = self.state.store.fields(number)
            words[start:start + len(fields)] = [_word_of(value, starts) for value in fields]
        return words

    def log(self):
        """List the changes in the order in which they were made."""
        return [event for event, _ in self._past]

    def undo(self):
        """Take the last change back, and tell whether there was one."""
        if not self._past:
            return False
        _, self.state = self._past.pop()
        return True

    def branch(self):
        """Return a heap of its own with the same manager, contents and log."""
        heap = ManagedHeap(self.manager)
        heap.state = self.state
        heap._past = list(self._past)
        return heap


def policy_heap(size, policy):
    """Return an empty heap in which a policy places the blocks."""
    return ManagedHeap(PolicyManager(size, policy))


def contract_heap(contract):
    """Return an empty heap that the manager's strategy of a contract serves; raise Loses."""
    return ManagedHeap(StrategyManager(contract))


def is_change(event, answer):
    """Tell whether an event to which a heap gave this answer is a change; a slide that moves nothing is none."""
    return event[0] != "slide" or answer is not None


def replay(heap, events):
    """Make changes up to the first one that raises; return how many were performed, and its error or None."""
    performed = 0
    for event in events:
        try:
            heap.change(event)
        except HeapgameError as error:
            return performed, error
        performed += 1
    return performed, None


def _word_of(value, starts):
    target = target_of(value)
    return value if target is None else (REFERENCE, starts[target])
