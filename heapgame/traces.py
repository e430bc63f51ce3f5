"""Traces of requests and releases, what a policy makes of them, and the first trace that fails."""

from heapgame.errors import MoveError
from heapgame.placement import place_block

REQUEST = "request"
RELEASE = "release"


class Run:
    """A heap within a trace: its live blocks by the numbers of their requests; it is never changed."""

    def __init__(self, live, made, cursor):
        self.live = live
        self.made = made
        self.cursor = cursor

    def layout(self):
        """Return the layout of the live blocks."""
        return sorted(self.live.values())

    def requested(self, size, policy, length):
        """Return the run behind a request, or None if it has no place."""
        start = place_block(size, self.layout(), length, policy, self.cursor)
        if start is None:
            return None
        return Run({**self.live, self.made: (start, length)}, self.made + 1, start + length)

    def released(self, number):
        """Return the run behind the release of a live request."""
        return Run({other: self.live[other] for other in self.live if other != number}, self.made, self.cursor)


def run_trace(size, policy, trace):
    """Return the starts, the index of the action that failed or None, and the layout; raise MoveError(index)."""
    starts = []
    run = Run({}, 0, 0)
    for index, action in enumerate(trace):
        if action[0] == RELEASE and action[1] not in run.live:
            raise MoveError(index)
        behind = _performed(size, policy, run, action)
        if behind is None:
            return starts, index, run.layout()
        if action[0] == REQUEST:
            starts.append(behind.live[run.made][0])
        run = behind
    return starts, None, run.layout()


def keeps(contract, trace):
    """Tell whether a trace keeps a contract; its requests need no places."""
    live = {}
    made = 0
    for kind, number in trace:
        if kind == RELEASE:
            if number not in live:
                return False
            del live[number]
        else:
            if number not in contract.lengths or sum(live.values()) + number > contract.limit:
                return False
            live[made] = number
            made += 1
    return True


def find_failure(contract, policy):
    """Return the first of the shortest traces that keep the contract and fail in its heap, or None."""
    seen = set()
    level = [([], Run({}, 0, 0))]
    while level:
        following = []
        for trace, run in level:
            for action in _actions(contract, run):
                behind = _performed(contract.size, policy, run, action)
                if behind is None:
                    return trace + [action]
                # Whatever follows one trace can follow another one with the same blocks and cursor, only the
                # numbers of the requests differ: the first trace that leads to them is enough.
                mark = (tuple(behind.layout()), behind.cursor)
                if mark not in seen:
                    seen.add(mark)
                    following.append((trace + [action], behind))
        level = following
    return None


def _actions(contract, run):
    # In the order in which traces are compared, so that the first failure found is that of the first trace.
    live = sum([length for _, length in run.live.values()])
    requests = [(REQUEST, length) for length in contract.lengths if live + length <= contract.limit]
    return requests + [(RELEASE, number) for number in sorted(run.live)]


def _performed(size, policy, run, action):
    kind, number = action
    if kind == RELEASE:
        return run.released(number)
    return run.requested(size, policy, number)
