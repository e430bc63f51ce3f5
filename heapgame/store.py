"""Objects with fields that refer to one another, roots, and what they reach; where they lie does not matter here."""

from heapgame.errors import NoSuchField, NoSuchObject, StillUsed


class Store:
    """Objects, numbered in the order in which they are made, and the roots among them."""

    def __init__(self):
        self.objects = {}
        self.roots = []
        self.next_number = 0

    def copy(self):
        """Return a store of its own that is alike."""
        store = Store()
        store.objects = {number: list(fields) for number, fields in self.objects.items()}
        store.roots = list(self.roots)
        store.next_number = self.next_number
        return store

    def numbers(self):
        """List the numbers of all objects, ascending."""
        return sorted(self.objects)

    def fields(self, number):
        """List the fields of an object; raise NoSuchObject(number)."""
        self._check(number)
        return list(self.objects[number])

    def make(self, count):
        """Make an object with so many fields, all None, and return its number."""
        number = self.next_number
        self.objects[number] = [None] * count
        self.next_number = number + 1
        return number

    def read(self, number, index):
        """Return a field; raise NoSuchObject(number) or NoSuchField(index)."""
        self._check_field(number, index)
        return self.objects[number][index]

    def write(self, number, index, value):
        """Write a field; raise as read, then NoSuchObject for an object to which the value refers."""
        self._check_field(number, index)
        target = target_of(value)
        if target is not None:
            self._check(target)
        self.objects[number][index] = value

    def is_referenced(self, number):
        """Tell whether a field of another object refers to this one."""
        for other, fields in self.objects.items():
            if other != number and number in _targets(fields):
                return True
        return False

    def release(self, number):
        """Remove an object; raise NoSuchObject(number) or StillUsed(number, reason)."""
        self._check(number)
        if number in self.roots:
            raise StillUsed(number, "root")
        if self.is_referenced(number):
            raise StillUsed(number, "referenced")
        del self.objects[number]

    def add_root(self, number):
        """Make an object a root, and tell whether that makes a difference; raise NoSuchObject(number)."""
        self._check(number)
        if number in self.roots:
            return False
        self.roots = sorted(self.roots + [number])
        return True

    def remove_root(self, number):
        """Make an object no root any more, and tell whether that makes a difference; raise NoSuchObject(number)."""
        self._check(number)
        if number not in self.roots:
            return False
        self.roots = [root for root in self.roots if root != number]
        return True

    def reachable(self):
        """List the numbers of the objects that the roots reach, ascending."""
        seen = set()
        waiting = list(self.roots)
        while waiting:
            number = waiting.pop()
            if number not in seen:
                seen.add(number)
                waiting.extend(_targets(self.objects[number]))
        return sorted(seen)

    def collect(self):
        """Remove all objects that are not reachable, and list their numbers, ascending."""
        kept = {number: self.objects[number] for number in self.reachable()}
        removed = [number for number in self.numbers() if number not in kept]
        self.objects = kept
        return removed

    def _check(self, number):
        if number not in self.objects:
            raise NoSuchObject(number)

    def _check_field(self, number, index):
        self._check(number)
        if not 0 <= index < len(self.objects[number]):
            raise NoSuchField(index)


def target_of(value):
    """Return the number of the object to which a field refers, or None."""
    return value[1] if isinstance(value, tuple) else None


def _targets(fields):
    targets = [target_of(value) for value in fields]
    return [target for target in targets if target is not None]
