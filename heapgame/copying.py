"""A copying collector: objects in two halves of a row of words."""

from heapgame.errors import NoSuchField, NoSuchObject, OutOfMemory

NULL = 0


class Halves:
    """Two halves of words, and roots that hold objects of the present half or nothing."""

    def __init__(self, size, roots):
        self.size = size
        self.words = [NULL] * (2 * size)
        self.base = 0
        self.top = 0
        self.roots = [None] * roots

    def make(self, root, many):
        """Let a root hold a new object with so many fields; raise OutOfMemory(many)."""
        if not self._has_room(many):
            self.collect()
        if not self._has_room(many):
            raise OutOfMemory(many)
        address = self.top
        self.top = address + 1 + many
        self.words[address:self.top] = [-1 - many] + [NULL] * many
        self.roots[root] = address

    def drop(self, root):
        """Let a root hold nothing."""
        self.roots[root] = None

    def put_null(self, root, index):
        """Write null to a field; raise NoSuchObject(root) or NoSuchField(index)."""
        self.words[self._place(root, index)] = NULL

    def put_number(self, root, index, number):
        """Write a number to a field; raise NoSuchObject(root) or NoSuchField(index)."""
        self.words[self._place(root, index)] = 2 * number + 2

    def put_object(self, root, index, other):
        """Write a reference to the object of another root; raise as put_null, then NoSuchObject(other)."""
        place = self._place(root, index)
        self.words[place] = _reference(self._held(other))

    def read(self, root, index):
        """Return None, a number, or "object"; raise NoSuchObject(root) or NoSuchField(index)."""
        word = self.words[self._place(root, index)]
        return "object" if _refers(word) else _number(word)

    def load(self, root, other, index):
        """Let a root hold the object to which a field refers, and tell whether there is one; raise as read."""
        word = self.words[self._place(other, index)]
        if not _refers(word):
            return False
        self.roots[root] = _address(word)
        return True

    def used(self):
        """Count the words of the present half that are used."""
        return self.top - self.base

    def collect(self):
        """Copy what the roots reach to the other half, and count the words that are used then."""
        self.base = self.size - self.base
        self.top = self.base
        for root in range(len(self.roots)):
            if self.roots[root] is not None:
                self.roots[root] = self._copied(self.roots[root])
        scanned = self.base
        while scanned < self.top:
            self._copy_fields(scanned)
            scanned = self._end(scanned)
        return self.used()

    def graph(self):
        """Return the numbers of the roots' objects, and the fields of all objects that are reached."""
        numbers = {}
        found = []
        _note([address for address in self.roots if address is not None], numbers, found)
        scanned = 0
        while scanned < len(found):
            _note([_address(word) for word in self._fields(found[scanned]) if _refers(word)], numbers, found)
            scanned += 1
        roots = [None if address is None else numbers[address] for address in self.roots]
        return roots, [[_told(word, numbers) for word in self._fields(address)] for address in found]

    def _has_room(self, many):
        return self.used() + 1 + many <= self.size

    def _held(self, root):
        address = self.roots[root]
        if address is None:
            raise NoSuchObject(root)
        return address

    def _place(self, root, index):
        address = self._held(root)
        if not 0 <= index < len(self._fields(address)):
            raise NoSuchField(index)
        return address + 1 + index

    def _end(self, address):
        # The header is -1 less the number of the fields, so it is minus the number of all words.
        return address - self.words[address]

    def _fields(self, address):
        return self.words[address + 1:self._end(address)]

    def _copied(self, address):
        # An address in place of the header, which is negative, tells that there is a copy already.
        if self.words[address] >= 0:
            return self.words[address]
        copied = self.words[address:self._end(address)]
        goal = self.top
        self.top = goal + len(copied)
        self.words[goal:self.top] = copied
        self.words[address] = goal
        return goal

    def _copy_fields(self, address):
        for place in range(address + 1, self._end(address)):
            if _refers(self.words[place]):
                self.words[place] = _reference(self._copied(_address(self.words[place])))


def _refers(word):
    return word % 2 == 1


def _address(word):
    return word // 2


def _reference(address):
    return 2 * address + 1


def _number(word):
    return None if word == NULL else word // 2 - 1


def _told(word, numbers):
    if _refers(word):
        return (numbers[_address(word)],)
    return _number(word)


def _note(addresses, numbers, found):
    for address in addresses:
        if address not in numbers:
            numbers[address] = len(found)
            found.append(address)
