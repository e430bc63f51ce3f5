"""Sliding the blocks of objects left, word by word, while a program reads and writes their fields."""

from heapgame.errors import NoSuchField, NoSuchObject
from heapgame.heap import FREE, in_order
from heapgame.moves import first_slide


class Slider:
    """The words of a heap, a table of the starts of its objects, and the block that is being moved, if there is one."""

    def __init__(self, size, blocks):
        self.words = [FREE] * size
        self.starts = {}
        self._lengths = {}
        self._moving = None
        self._goal = 0
        self._done = 0
        for number, start, fields in blocks:
            self.words[start:start + len(fields)] = fields
            self.starts[number] = start
            self._lengths[number] = len(fields)

    def read(self, number, index):
        """Return a field; raise NoSuchObject(number) or NoSuchField(index)."""
        return self.words[self._place(number, index)]

    def write(self, number, index, value):
        """Write a field, whatever the value is; raise NoSuchObject(number) or NoSuchField(index)."""
        self.words[self._place(number, index)] = value

    def step(self):
        """Copy one word, and tell whether there was one to copy."""
        if self._moving is None:
            self._choose()
        if self._moving is None:
            return False
        self.words[self._goal + self._done] = self.words[self.starts[self._moving] + self._done]
        self._done += 1
        if self._done == self._lengths[self._moving]:
            self._finish()
        return True

    def work(self, steps):
        """Make at most so many steps, and count those that made a difference."""
        made = 0
        while made < steps and self.step():
            made += 1
        return made

    def layout(self):
        """Return the blocks, ascending, the one that is being moved at its old place."""
        return [(self.starts[number], self._lengths[number]) for number in in_order(self.starts)]

    def _place(self, number, index):
        if number not in self.starts:
            raise NoSuchObject(number)
        if not 0 <= index < self._lengths[number]:
            raise NoSuchField(index)
        if number == self._moving and index < self._done:
            return self._goal + index
        return self.starts[number] + index

    def _choose(self):
        found = first_slide(self.layout())
        if found is not None:
            index, self._goal = found
            self._moving = in_order(self.starts)[index]
            self._done = 0

    def _finish(self):
        start = self.starts[self._moving]
        length = self._lengths[self._moving]
        # The new place may have cells in common with the old one.
        for cell in range(max(start, self._goal + length), start + length):
            self.words[cell] = FREE
        self.starts[self._moving] = self._goal
        self._moving = None


def slider_of(heap):
    """Return the slider of the objects of a managed heap."""
    state = heap.state
    blocks = [(number, state.starts[number], state.store.fields(number)) for number in state.store.numbers()]
    return Slider(heap.manager.size, blocks)
