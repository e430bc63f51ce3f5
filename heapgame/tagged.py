"""A memory of words that is divided into areas with a tag at both ends."""

from heapgame.errors import NoSuchField, NoSuchObject, OutOfMemory
from heapgame.placement import chosen_area

LEAST = 3
TAGS = 2
NOWHERE = -1


class Tagged:
    """A tagged memory; the words of its free areas link them, by ascending starts."""

    def __init__(self, size, policy):
        self.size = size
        self.policy = policy
        self.words = [0] * size
        self.head = NOWHERE
        self._set_free([(0, size)])

    def allocate(self, length):
        """Return the start of a new used area for so many words; raise OutOfMemory(length)."""
        needed = max(length + TAGS, LEAST)
        free = self.free_list()
        wide_enough = [area for area in free if area[1] >= needed]
        if not wide_enough:
            raise OutOfMemory(length)
        start, words = chosen_area(wide_enough, self.policy)
        taken = needed if words - needed >= LEAST else words
        left = [(start + taken, words - taken)] if taken < words else []
        at = free.index((start, words))
        self._set_free(free[:at] + left + free[at + 1:])
        self._set_tags(start, taken, 1)
        self.words[start + 1:start + taken - 1] = [0] * (taken - TAGS)
        return start

    def release(self, start):
        """Free a used area and join it with its free neighbors; raise NoSuchObject(start)."""
        self._check_used(start)
        joined = []
        for area in sorted(self.free_list() + [(start, self.wide(start))]):
            if joined and joined[-1][0] + joined[-1][1] == area[0]:
                joined[-1] = (joined[-1][0], joined[-1][1] + area[1])
            else:
                joined.append(area)
        self._set_free(joined)

    def read(self, start, index):
        """Return a word of a used area; raise NoSuchObject(start) or NoSuchField(index)."""
        return self.words[self._place(start, index)]

    def write(self, start, index, word):
        """Write a word of a used area; raise NoSuchObject(start) or NoSuchField(index)."""
        self.words[self._place(start, index)] = word

    def areas(self):
        """List the areas as tuples (start, words, used), by ascending starts."""
        found = []
        start = 0
        while start < self.size:
            words, used = divmod(self.words[start], 2)
            found.append((start, words, used == 1))
            start += words
        return found

    def free_list(self):
        """List the free areas as tuples (start, words), along their links."""
        found = []
        start = self.head
        while start != NOWHERE:
            found.append((start, self.wide(start)))
            start = self.words[start + 1]
        return found

    def layout(self):
        """Return the used areas as blocks, tags included."""
        return [(start, words) for start, words, used in self.areas() if used]

    def wide(self, start):
        """Return how many words the area at a start has."""
        return self.words[start] // 2

    def is_used(self, start):
        """Tell whether the area at a start is used."""
        # A word that was written may look like a tag, so the tags are followed from the first word on.
        return start in [other for other, _ in self.layout()]

    def _check_used(self, start):
        if not self.is_used(start):
            raise NoSuchObject(start)

    def _place(self, start, index):
        self._check_used(start)
        if not 0 <= index < self.wide(start) - TAGS:
            raise NoSuchField(index)
        return start + 1 + index

    def _set_tags(self, start, words, used):
        self.words[start] = self.words[start + words - 1] = 2 * words + used

    def _set_free(self, areas):
        starts = [start for start, _ in areas] + [NOWHERE]
        self.head = starts[0]
        for (start, words), link in zip(areas, starts[1:]):
            self._set_tags(start, words, 0)
            self.words[start + 1] = link
