"""All errors of the package; callers who catch HeapgameError catch each of them."""


class HeapgameError(ValueError):
    """What each error of the package is."""


class OutOfMemory(HeapgameError):
    """There is no place for so many cells, words or fields."""

    def __init__(self, length):
        super().__init__(f"no place for the length {length}")
        self.length = length


class NotAllowed(HeapgameError):
    """The contract does not allow a request of this length now."""

    def __init__(self, length):
        super().__init__(f"a request of the length {length} is not allowed")
        self.length = length


class NoRoom(HeapgameError):
    """Too few cells are free to make room for this length."""

    def __init__(self, length):
        super().__init__(f"too few free cells for the length {length}")
        self.length = length


class NoSuchObject(HeapgameError):
    """No object has this number, or begins at this place."""

    def __init__(self, number):
        super().__init__(f"no object {number}")
        self.number = number


class NoSuchField(HeapgameError):
    """The object has no field with this index."""

    def __init__(self, index):
        super().__init__(f"no field {index}")
        self.index = index


class MoveError(HeapgameError):
    """The action with this index releases a request that is not live."""

    def __init__(self, index):
        super().__init__(f"the action {index} releases a request that is not live")
        self.index = index


class StillUsed(HeapgameError):
    """The object cannot be released, for this reason."""

    def __init__(self, number, reason):
        super().__init__(f"the object {number} is still used: {reason}")
        self.number = number
        self.reason = reason


class MapLeaves(HeapgameError):
    """The address map has an address that is no index of the words."""

    def __init__(self, address):
        super().__init__(f"the map leaves the words at the address {address}")
        self.address = address


class TextError(HeapgameError):
    """The character at this place does not fit."""

    def __init__(self, place):
        super().__init__(f"the character at the place {place} does not fit")
        self.place = place


class PowerCut(HeapgameError):
    """The power went when so many octets were on the device."""

    def __init__(self, written):
        super().__init__(f"the power went behind {written} octets")
        self.written = written


class StrategyDecides(HeapgameError):
    """Blocks are moved by the manager's strategy alone."""


class Loses(HeapgameError):
    """The manager does not win the game of the contract."""


class BadReply(HeapgameError):
    """The rules of the match do not allow this now."""


class ShutError(HeapgameError):
    """The heap was shut when the power went."""
