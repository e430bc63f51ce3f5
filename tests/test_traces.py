"""Traces: promises 9 to 12, and 3 over them."""

import copy
import inspect
import itertools
import time
import unittest

import samples

from heapgame import traces
from heapgame.errors import HeapgameError, MoveError
from heapgame.layouts import Contract
from heapgame.traces import find_failure, keeps, run_trace

INTERFACE = {
    "run_trace": ["size", "policy", "trace"],
    "keeps": ["contract", "trace"],
    "find_failure": ["contract", "policy"],
}
POLICIES = ("first", "best", "worst", "next")


def requests(*lengths):
    return [("request", length) for length in lengths]


def releases(*numbers):
    return [("release", number) for number in numbers]


def run_by_the_words(size, policy, trace):
    """What a trace does, told by promise 9; the index of a wrong release instead of a tuple."""
    blocks = []
    live = set()
    cursor = 0
    for index, (kind, number) in enumerate(trace):
        layout = sorted(blocks[other] for other in live)
        if kind == "release":
            if number not in live:
                return index
            live.remove(number)
            continue
        start = samples.start_by_policy(size, layout, number, policy, cursor)
        if start is None:
            return [start for start, _ in blocks], index, layout
        live.add(len(blocks))
        blocks.append((start, number))
        cursor = start + number
    return [start for start, _ in blocks], None, sorted(blocks[other] for other in live)


def keeps_by_the_words(contract, trace):
    """Whether a trace keeps a contract, told by promise 10."""
    for index, (kind, number) in enumerate(trace):
        made = [length for before, length in trace[:index] if before == "request"]
        gone = [other for before, other in trace[:index] if before == "release"]
        live = {other: length for other, length in enumerate(made) if other not in gone}
        if kind == "release" and number not in live:
            return False
        if kind == "request" and number not in contract.lengths:
            return False
        if kind == "request" and sum(live.values()) + number > contract.limit:
            return False
    return True


def fails(size, policy, trace):
    """Whether a trace fails, at its last action."""
    return run_by_the_words(size, policy, trace)[1] == len(trace) - 1


def order_of_actions(trace):
    """A key by which traces of the same length have the order of promise 11."""
    return [(["request", "release"].index(kind), number) for kind, number in trace]


def traces_of(contract, length, numbers):
    """All traces of this length that keep the contract, and release requests with numbers below this one."""
    actions = requests(*contract.lengths) + releases(*range(numbers))
    found = [[]]
    for _ in range(length):
        longer = [trace + [action] for trace in found for action in actions]
        found = [trace for trace in longer if keeps_by_the_words(contract, trace)]
    return found


def failure_by_trying(contract, policy, longest):
    """The first of the shortest failing traces of at most this length, or None; all of them are tried."""
    for length in range(1, longest + 1):
        found = [trace for trace in traces_of(contract, length, length)
                 if run_by_the_words(contract.size, policy, trace[:-1])[1] is None
                 and fails(contract.size, policy, trace)]
        if found:
            return min(found, key=order_of_actions)
    return None


def failure_by_levels(contract, policy):
    """As failure_by_trying, without a bound; of traces that leave the same blocks in the order of their requests, and
    the same cursor, only the first one is carried on."""
    level = [([], [], 0)]
    seen = set()
    while level:
        longer = []
        for trace, live, cursor in level:
            layout = sorted(block for _, block in live)
            for action in actions_by_order(contract, live):
                kind, number = action
                if kind == "release":
                    then, place = [pair for pair in live if pair[0] != number], cursor
                else:
                    start = samples.start_by_policy(contract.size, layout, number, policy, cursor)
                    if start is None:
                        return trace + [action]
                    made = [before for before, _ in trace].count("request")
                    then, place = live + [(made, (start, number))], start + number
                mark = (tuple(block for _, block in then), place)
                if mark not in seen:
                    seen.add(mark)
                    longer.append((trace + [action], then, place))
        level = longer
    return None


def actions_by_order(contract, live):
    cells = sum(block[1] for _, block in live)
    return requests(*[length for length in contract.lengths if cells + length <= contract.limit]) + releases(
        *[number for number, _ in live])


class InterfaceTest(unittest.TestCase):
    def test_names_and_arguments(self):
        for name, arguments in INTERFACE.items():
            found = getattr(traces, name)
            self.assertEqual(list(inspect.signature(found).parameters), arguments, name)
            self.assertEqual(found.__module__, "heapgame.traces")


class RunTraceTest(unittest.TestCase):
    """Promise 9."""

    def assert_move_error(self, size, trace, index):
        for policy in POLICIES:
            with self.assertRaises(MoveError) as caught:
                run_trace(size, policy, trace)
            self.assertEqual(caught.exception.index, index, (policy, trace))

    def test_the_policies_place_the_blocks(self):
        trace = requests(3, 1, 1, 1, 2) + releases(0, 2) + requests(1, 1)
        layout = [(3, 1), (5, 1), (6, 2)]
        for policy, starts, placed in [
                ("first", [0, 1], [(0, 1), (1, 1)]), ("best", [4, 8], [(4, 1), (8, 1)]),
                ("worst", [0, 1], [(0, 1), (1, 1)]), ("next", [8, 0], [(0, 1), (8, 1)])]:
            expected = ([0, 3, 4, 5, 6] + starts, None, sorted(layout + placed))
            self.assertEqual(run_trace(9, policy, trace), expected, policy)

    def test_worst_takes_the_longest_gap(self):
        trace = requests(1, 1, 1) + releases(0) + requests(1)
        self.assertEqual(run_trace(6, "worst", trace), ([0, 1, 2, 3], None, [(1, 1), (2, 1), (3, 1)]))
        self.assertEqual(run_trace(6, "best", trace), ([0, 1, 2, 0], None, [(0, 1), (1, 1), (2, 1)]))

    def test_no_action(self):
        for policy in POLICIES:
            self.assertEqual(run_trace(4, policy, []), ([], None, []))

    def test_a_failure_at_the_first_request(self):
        for policy in POLICIES:
            self.assertEqual(run_trace(2, policy, requests(3)), ([], 0, []))
            self.assertEqual(run_trace(2, policy, requests(3, 1, 1)), ([], 0, []))

    def test_a_failure_in_the_middle(self):
        trace = requests(2, 1) + releases(0) + requests(3) + releases(1) + requests(4)
        for policy in POLICIES:
            self.assertEqual(run_trace(4, policy, trace), ([0, 2], 3, [(2, 1)]))

    def test_a_failure_at_the_last_request(self):
        trace = requests(1, 1, 1) + releases(1) + requests(2)
        for policy in POLICIES:
            self.assertEqual(run_trace(3, policy, trace), ([0, 1, 2], 4, [(0, 1), (2, 1)]))

    def test_no_failure(self):
        trace = requests(1, 1, 1) + releases(1, 0) + requests(2)
        for policy in POLICIES:
            self.assertEqual(run_trace(3, policy, trace), ([0, 1, 2, 0], None, [(0, 2), (2, 1)]))

    def test_a_full_heap(self):
        for policy in POLICIES:
            self.assertEqual(run_trace(3, policy, requests(2, 1)), ([0, 2], None, [(0, 2), (2, 1)]))
            self.assertEqual(run_trace(3, policy, requests(2, 1, 1)), ([0, 2], 2, [(0, 2), (2, 1)]))

    def test_a_release_of_a_request_never_made(self):
        self.assert_move_error(4, releases(0), 0)
        self.assert_move_error(4, requests(1) + releases(-1), 1)
        self.assert_move_error(4, requests(1, 1) + releases(2), 2)

    def test_a_release_twice(self):
        self.assert_move_error(4, requests(1) + releases(0, 0), 2)
        self.assert_move_error(4, requests(1, 2) + releases(0) + requests(1) + releases(0), 4)

    def test_a_release_of_a_request_that_comes_later(self):
        self.assert_move_error(4, requests(1) + releases(1) + requests(1), 1)
        self.assert_move_error(4, releases(0) + requests(1), 0)

    def test_only_the_first_wrong_release_is_told(self):
        self.assert_move_error(4, requests(1) + releases(3, 4, 0, 0), 1)

    def test_a_wrong_release_ahead_of_the_failure(self):
        self.assert_move_error(4, requests(3) + releases(1) + requests(2), 1)

    def test_actions_behind_the_failure_are_not_looked_at(self):
        for wrong in (releases(1), releases(7), releases(-1), releases(0, 0), releases(2) + requests(1)):
            for policy in POLICIES:
                self.assertEqual(run_trace(4, policy, requests(3, 2) + wrong), ([0], 1, [(0, 3)]))

    def test_the_cursor_is_behind_the_last_block(self):
        trace = requests(2, 2) + releases(0) + requests(1)
        self.assertEqual(run_trace(6, "next", trace), ([0, 2, 4], None, [(2, 2), (4, 1)]))
        self.assertEqual(run_trace(6, "first", trace), ([0, 2, 0], None, [(0, 1), (2, 2)]))

    def test_a_release_leaves_the_cursor(self):
        trace = requests(2) + releases(0) + requests(1, 1)
        self.assertEqual(run_trace(4, "next", trace), ([0, 2, 3], None, [(2, 1), (3, 1)]))

    def test_the_cursor_behind_the_last_cell(self):
        trace = requests(2, 2) + releases(0) + requests(1, 1)
        self.assertEqual(run_trace(4, "next", trace), ([0, 2, 0, 1], None, [(0, 1), (1, 1), (2, 2)]))
        trace = requests(4) + releases(0) + requests(1, 1)
        self.assertEqual(run_trace(4, "next", trace), ([0, 0, 1], None, [(0, 1), (1, 1)]))

    def test_the_cursor_where_the_rest_is_too_short(self):
        trace = requests(2, 1) + releases(0) + requests(2, 1)
        self.assertEqual(run_trace(4, "next", trace), ([0, 2, 0, 3], None, [(0, 2), (2, 1), (3, 1)]))

    def test_all_short_traces(self):
        actions = requests(1, 2, 4) + releases(-1, 0, 1, 2, 3)
        for length in range(5):
            for trace in itertools.product(actions, repeat=length):
                for policy in POLICIES:
                    self.check_run(3, policy, list(trace))

    def test_longer_traces(self):
        actions = requests(1, 2) + releases(0, 1)
        for trace in itertools.product(actions, repeat=4):
            for policy in POLICIES:
                self.check_run(6, policy, requests(1, 2, 1) + list(trace))

    def check_run(self, size, policy, trace):
        told = run_by_the_words(size, policy, trace)
        if isinstance(told, tuple):
            self.assertEqual(run_trace(size, policy, trace), told, (policy, trace))
            return
        with self.assertRaises(MoveError) as caught:
            run_trace(size, policy, trace)
        self.assertEqual(caught.exception.index, told, (policy, trace))

    def test_the_greatest_heap_and_somewhat_more(self):
        for policy in POLICIES:
            self.assertEqual(run_trace(64, policy, requests(*[1] * 65))[0:2], (list(range(64)), 64))
            self.assertEqual(run_trace(70, policy, requests(66, 4, 1)), ([0, 66], 2, [(0, 66), (66, 4)]))

    def test_a_wrong_release_is_an_error_of_the_package(self):
        with self.assertRaises(HeapgameError):
            run_trace(4, "first", releases(0))


class KeepsTest(unittest.TestCase):
    """Promise 10."""

    def test_traces_that_keep_a_contract(self):
        contract = Contract(4, 5, [1, 3], 0)
        for trace in ([], requests(1), requests(3), requests(1, 3), requests(1) + releases(0),
                      requests(3, 1) + releases(0, 1) + requests(3, 1)):
            self.assertIs(keeps(contract, trace), True, trace)

    def test_lengths_that_are_not_the_contracts(self):
        contract = Contract(4, 8, [1, 3], 0)
        for trace in (requests(2), requests(4), requests(0), requests(-1), requests(1, 2),
                      requests(1) + releases(0) + requests(2)):
            self.assertIs(keeps(contract, trace), False, trace)

    def test_the_limit(self):
        contract = Contract(8, 4, [1, 3], 0)
        self.assertIs(keeps(contract, requests(3, 1)), True)
        self.assertIs(keeps(contract, requests(1, 1, 1, 1)), True)
        self.assertIs(keeps(contract, requests(1, 1, 1, 1, 1)), False)
        self.assertIs(keeps(contract, requests(3, 3)), False)
        self.assertIs(keeps(contract, requests(3, 1) + releases(1) + requests(1)), True)
        self.assertIs(keeps(contract, requests(3, 1) + releases(0) + requests(3)), True)
        self.assertIs(keeps(contract, requests(3, 1) + releases(1) + requests(3)), False)

    def test_a_limit_of_no_cell(self):
        self.assertIs(keeps(Contract(8, 0, [1], 0), []), True)
        self.assertIs(keeps(Contract(8, 0, [1], 0), requests(1)), False)

    def test_releases_of_requests_that_are_not_live(self):
        contract = Contract(8, 8, [1, 2], 0)
        for trace in (releases(0), releases(-1), requests(1) + releases(1), requests(1) + releases(-1),
                      requests(1, 2) + releases(1, 1), requests(1) + releases(0) + requests(1) + releases(0),
                      requests(1) + releases(1) + requests(1)):
            self.assertIs(keeps(contract, trace), False, trace)

    def test_a_request_without_a_place_counts_as_a_request(self):
        contract = Contract(2, 6, [1, 3], 0)
        self.assertIs(keeps(contract, requests(3)), True)
        self.assertIs(keeps(contract, requests(3, 3)), True)
        self.assertIs(keeps(contract, requests(3, 3, 1)), False)
        self.assertIs(keeps(contract, requests(3, 3) + releases(0) + requests(1)), True)
        self.assertIs(keeps(contract, requests(3, 1, 1, 1) + releases(3) + requests(1)), True)
        self.assertIs(keeps(contract, requests(3, 1) + releases(0, 1)), True)
        self.assertIs(keeps(contract, requests(3, 3) + releases(1, 0)), True)

    def test_a_request_that_fails_stays_within_the_limit_too(self):
        self.assertIs(keeps(Contract(1, 2, [2], 0), requests(2)), True)
        self.assertIs(keeps(Contract(1, 1, [2], 0), requests(2)), False)

    def test_all_short_traces(self):
        actions = requests(1, 2, 3) + releases(-1, 0, 1, 2)
        for contract in (Contract(2, 3, [1, 3], 0), Contract(8, 4, [2], 1), Contract(1, 2, [1, 2, 3], 2)):
            for length in range(6):
                for trace in itertools.product(actions, repeat=length):
                    self.assertIs(keeps(contract, list(trace)), keeps_by_the_words(contract, trace), trace)


class FindFailureTest(unittest.TestCase):
    """Promises 11 and 12."""

    def check_by_trying(self, contract, longest):
        """Compare with all traces up to a length; return whether a failing one was found for each policy."""
        told = (contract.size, contract.limit, contract.lengths)
        found = []
        for policy in POLICIES:
            trace = find_failure(contract, policy)
            if trace is None or len(trace) <= longest:
                self.assertEqual(trace, failure_by_trying(contract, policy, longest), (told, policy))
            else:
                self.assertIsNone(failure_by_trying(contract, policy, longest), (told, policy))
                self.assertTrue(keeps_by_the_words(contract, trace))
                self.assertTrue(fails(contract.size, policy, trace))
            found.append(trace is not None)
        return found

    def test_contracts_of_up_to_three_cells(self):
        found = []
        for size in (1, 2, 3):
            for limit in range(size + 2):
                for lengths in ([1], [2], [3], [1, 2], [1, 3], [2, 3], [1, 2, 3]):
                    found += self.check_by_trying(Contract(size, limit, lengths, 0), 5)
        self.assertIn(True, found)
        self.assertIn(False, found)

    def test_contracts_of_four_and_five_cells(self):
        for size, limit, lengths in ((4, 3, [1, 2]), (4, 3, [1, 2, 3]), (4, 4, [1, 3]), (4, 4, [2, 3]), (4, 5, [2]),
                                     (5, 4, [1, 3]), (5, 4, [1, 2, 3]), (5, 5, [2, 3]), (5, 5, [1, 4]), (5, 6, [3])):
            self.check_by_trying(Contract(size, limit, lengths, 0), 6)

    def test_failures_at_the_first_request(self):
        for policy in POLICIES:
            self.assertEqual(find_failure(Contract(2, 8, [3], 0), policy), requests(3))
            self.assertEqual(find_failure(Contract(2, 8, [3, 4], 0), policy), requests(3))
            self.assertEqual(find_failure(Contract(2, 8, [1, 2, 4], 0), policy), requests(4))

    def test_requests_come_before_releases_and_short_ones_before_long_ones(self):
        self.assertEqual(find_failure(Contract(2, 3, [1, 2], 0), "first"), requests(1, 2))
        self.assertEqual(find_failure(Contract(3, 3, [1, 2], 0), "first"), requests(1, 1) + releases(0) + requests(2))
        self.assertEqual(find_failure(Contract(4, 4, [1, 3], 0), "first"), requests(1, 1) + releases(0) + requests(3))
        self.assertEqual(find_failure(Contract(2, 4, [1, 2], 0), "first"), requests(1, 2))
        self.assertEqual(find_failure(Contract(2, 4, [2, 3], 0), "first"), requests(3))

    def test_releases_have_the_order_of_their_numbers(self):
        self.assertEqual(find_failure(Contract(5, 4, [1, 3], 0), "first"),
                         requests(1, 1, 1) + releases(0, 1) + requests(3))
        # Behind the second release of 1 cell the block of the request 5 lies before that of the request 2.
        self.assertEqual(find_failure(Contract(8, 5, [1, 2, 3], 0), "best"),
                         requests(1, 3, 1) + releases(0, 1) + requests(1, 1, 2) + releases(4) + requests(1)
                         + releases(2, 5) + requests(3))

    def test_contracts_whose_shortest_failing_traces_are_long_or_missing(self):
        for size, limit, lengths in ((5, 3, [1, 2]), (5, 4, [1, 2]), (6, 4, [1, 2]), (6, 5, [1, 2]), (6, 5, [1, 2, 3]),
                                     (7, 5, [2, 3]), (7, 5, [1, 2, 3]), (8, 5, [1, 2, 3])):
            contract = Contract(size, limit, lengths, 0)
            for policy in POLICIES:
                self.assertEqual(find_failure(contract, policy), failure_by_levels(contract, policy),
                                 (size, limit, lengths, policy))

    def test_the_policies_fail_in_different_traces(self):
        contract = Contract(6, 5, [1, 3], 0)
        found = [find_failure(contract, policy) for policy in POLICIES]
        self.assertEqual(found, [failure_by_trying(contract, policy, 7) for policy in POLICIES])
        self.assertEqual(found[0], requests(3, 1) + releases(0) + requests(1, 3))
        self.assertEqual(found[1], requests(1, 1, 1, 1) + releases(0, 1) + requests(3))
        self.assertEqual(found[2:], found[:2])

    def test_no_failure(self):
        for contract in (Contract(4, 4, [1], 0), Contract(8, 8, [1], 0), Contract(5, 4, [2], 0),
                         Contract(8, 0, [1, 2, 3], 2), Contract(3, 2, [3, 4], 0), Contract(8, 3, [1, 2], 0)):
            for policy in POLICIES:
                self.assertIsNone(find_failure(contract, policy))

    def test_the_budget_does_not_matter(self):
        for policy in POLICIES:
            self.assertEqual(
                find_failure(Contract(4, 4, [1, 2], 2), policy), find_failure(Contract(4, 4, [1, 2], 0), policy))

    def test_what_is_found_keeps_the_contract_and_fails(self):
        for size in range(1, 9):
            for lengths in ([1, 2], [2, 3], [1, 2, 3], [1, 4]):
                contract = Contract(size, size, lengths, 0)
                for policy in POLICIES:
                    trace = find_failure(contract, policy)
                    if trace is not None:
                        self.assertTrue(keeps_by_the_words(contract, trace))
                        self.assertTrue(fails(size, policy, trace))
                        self.assertIsNone(run_by_the_words(size, policy, trace[:-1])[1])

    def test_contracts_of_five_and_of_eight_cells_take_seconds(self):
        for size, seconds in ((5, 5), (8, 20)):
            for limit in range(size + 1):
                for lengths in ([1], [1, 2], [1, 2, 3], [2, 3]):
                    for policy in POLICIES:
                        before = time.process_time()
                        find_failure(Contract(size, limit, lengths, 0), policy)
                        self.assertLess(time.process_time() - before, seconds)


class ListsTest(unittest.TestCase):
    """Promise 3."""

    def test_no_list_that_is_passed_in_is_changed(self):
        contract = Contract(4, 4, [1, 2], 0)
        for trace in (requests(1, 2) + releases(0), requests(2, 2, 2), requests(1) + releases(0, 0)):
            before = copy.deepcopy(trace)
            keeps(contract, trace)
            for policy in POLICIES:
                try:
                    run_trace(4, policy, trace)
                except MoveError:
                    pass
                find_failure(contract, policy)
            self.assertEqual(trace, before)
        self.assertEqual(contract.lengths, [1, 2])

    def test_each_list_that_is_returned_is_a_new_one(self):
        trace = requests(1, 2) + releases(0)
        contract = Contract(3, 3, [1, 2], 0)
        for policy in POLICIES:
            starts, _, layout = run_trace(4, policy, trace)
            starts.append(9)
            layout.append((9, 9))
            self.assertEqual(run_trace(4, policy, trace), ([0, 1], None, [(1, 2)]))
            found = find_failure(contract, policy)
            found.append(("request", 9))
            self.assertEqual(find_failure(contract, policy), found[:-1])


if __name__ == "__main__":
    unittest.main()
