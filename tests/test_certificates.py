"""Certificates: promises 38 to 40, and 3 over them."""

import copy
import inspect
import itertools
import time
import unittest

from solved import Solved, behind, contracts_up_to, live

from heapgame import certificates
from heapgame.certificates import certify, check
from heapgame.layouts import Contract

INTERFACE = {
    "certify": ["contract"],
    "check": ["contract", "certificate"],
}
# The program wins these contracts, the manager the next ones.
LOST = ((3, 3, [1, 2], 0), (4, 4, [1, 2], 0), (4, 4, [1, 3], 0), (6, 6, [2, 3], 1), (2, 3, [3], 2), (2, 3, [1, 3], 0),
        (1, 2, [1], 1))
WON = ((3, 3, [1], 0), (4, 4, [1, 2], 1), (4, 3, [1, 2], 0), (4, 4, [1, 3], 2), (5, 3, [1, 2], 0), (3, 0, [1], 0),
       (2, 2, [3], 0))


def moves_with_outcomes(solved, position):
    """The moves of a position in their order, each with the positions to which it leads, in the order of the replies."""
    found = []
    for index in range(len(position)):
        found.append((("release", index), [position[:index] + position[index + 1:]]))
    for length in solved.lengths:
        if live(position) + length <= solved.limit:
            found.append((("request", length), [behind(position, length, reply)
                                                for reply in solved.replies(position, length)]))
    return found


def walk(solved):
    """The certificate that is made, told by promise 39."""
    lost = () in solved.ranks
    listed = [()]
    for position in listed:
        for move, outcomes in moves_with_outcomes(solved, position):
            if lost and move != solved.program_move(position):
                continue
            if not lost and move[0] == "request":
                outcomes = [behind(position, move[1], solved.manager_reply(position, move[1]))]
            for outcome in outcomes:
                if outcome not in listed:
                    listed.append(outcome)
    if lost:
        return "program", [(list(position), solved.ranks[position]) for position in listed]
    return "manager", [list(position) for position in listed]


def shown(solved, certificate):
    """Which side a certificate shows to win, told by promise 38."""
    side, listed = certificate
    entries = [(tuple(row), None) for row in listed] if side == "manager" else [(tuple(row[0]), row[1]) for row in listed]
    layouts = [layout for layout, _ in entries]
    if () not in layouts or not set(layouts) <= set(solved.positions):
        return None
    for position, rank in entries:
        listed_below = set(layouts) if rank is None else {layout for layout, other in entries if other < rank}
        moves = [(kind, set(outcomes)) for (kind, _), outcomes in moves_with_outcomes(solved, position)]
        if side == "manager" and not all(outcomes & listed_below for _, outcomes in moves):
            return None
        if side == "program" and not any(outcomes <= listed_below for _, outcomes in moves):
            return None
    return side


class CertificatesTest(unittest.TestCase):
    def assert_shows(self, told, certificate, side):
        """What the certificate shows, as this test says and as the promise says."""
        self.assertEqual(shown(Solved(*told), certificate), side, (told, certificate))
        self.assertEqual(check(Contract(*told), certificate), side, (told, certificate))


class InterfaceTest(unittest.TestCase):
    def test_names_and_arguments(self):
        for name, arguments in INTERFACE.items():
            found = getattr(certificates, name)
            self.assertEqual(list(inspect.signature(found).parameters), arguments, name)
            self.assertEqual(found.__module__, "heapgame.certificates")


class CertifyTest(CertificatesTest):
    """Promises 39 and 40."""

    def test_a_certificate_of_the_manager_in_full(self):
        self.assertEqual(certify(Contract(2, 2, [1, 2], 1)),
                         ("manager", [[], [(0, 1)], [(0, 2)], [(0, 1), (1, 1)], [(1, 1)]]))

    def test_a_certificate_of_the_program_in_full(self):
        self.assertEqual(certify(Contract(3, 3, [1, 2], 0)),
                         ("program", [([], 6), ([(0, 1)], 5), ([(1, 1)], 1), ([(2, 1)], 5), ([(0, 1), (1, 1)], 2),
                                      ([(0, 1), (2, 1)], 4), ([(1, 1), (2, 1)], 2),
                                      ([(0, 1), (1, 1), (2, 1)], 3)]))

    def test_contracts_with_a_single_entry(self):
        self.assertEqual(certify(Contract(3, 0, [1], 0)), ("manager", [[]]))
        self.assertEqual(certify(Contract(2, 2, [3], 0)), ("manager", [[]]))
        self.assertEqual(certify(Contract(2, 3, [3], 2)), ("program", [([], 1)]))

    def test_all_contracts_of_few_cells(self):
        sides = []
        for told in contracts_up_to(3) + contracts_up_to(4)[-160::5] + list(LOST + WON):
            solved = Solved(*told)
            certificate = certify(Contract(*told))
            self.assertEqual(certificate, walk(solved), told)
            side = "program" if () in solved.ranks else "manager"
            self.assertEqual(certificate[0], side, told)
            self.assertEqual(check(Contract(*told), certificate), side, told)
            sides.append(side)
        self.assertEqual(set(sides), {"manager", "program"})

    def test_some_contracts_of_five_cells(self):
        for told in ((5, 4, [1, 2], 0), (5, 4, [1, 3], 1), (5, 5, [1, 2, 3], 0), (5, 4, [1, 2, 3], 1)):
            self.assertEqual(certify(Contract(*told)), walk(Solved(*told)), told)

    def test_the_kinds_of_what_is_returned(self):
        for told in LOST + WON:
            certificate = certify(Contract(*told))
            self.assertIsInstance(certificate, tuple)
            side, listed = certificate
            self.assertIsInstance(listed, list)
            for row in listed:
                layout = row if side == "manager" else row[0]
                self.assertIsInstance(layout, list)
                self.assertIsInstance(row, list if side == "manager" else tuple)

    def test_each_layout_is_listed_once(self):
        for told in LOST + WON + ((5, 4, [1, 2, 3], 2), (5, 5, [1, 2], 0)):
            side, listed = certify(Contract(*told))
            layouts = [tuple(row if side == "manager" else row[0]) for row in listed]
            self.assertEqual(len(set(layouts)), len(layouts))
            self.assertEqual(layouts[0], ())


class CheckTest(CertificatesTest):
    """Promise 38."""

    def test_an_empty_list(self):
        for told in LOST + WON:
            for side in ("manager", "program"):
                self.assert_shows(told, (side, []), None)

    def test_a_certificate_without_the_layout_without_blocks(self):
        for told in ((3, 3, [1, 2], 0), (4, 4, [1, 2], 1)):
            side, listed = certify(Contract(*told))
            self.assert_shows(told, (side, listed), side)
            self.assert_shows(told, (side, listed[1:]), None)
        # Each entry holds, but the play does not begin there.
        self.assert_shows((3, 3, [1, 2], 0), ("program", [([(1, 1)], 1)]), None)

    def test_an_entry_that_is_left_out_or_put_in_twice(self):
        for told in LOST + WON:
            side, listed = certify(Contract(*told))
            solved = Solved(*told)
            for at in range(len(listed)):
                less = (side, listed[:at] + listed[at + 1:])
                self.assertEqual(check(Contract(*told), less), shown(solved, less), (told, at))
                self.assertEqual(check(Contract(*told), (side, listed + [listed[at]])), side, (told, at))

    def test_the_order_of_the_entries_does_not_matter(self):
        for told in LOST + WON:
            side, listed = certify(Contract(*told))
            self.assertEqual(check(Contract(*told), (side, listed[::-1])), side)

    def test_an_entry_that_is_changed_to_another_position(self):
        for told in LOST[:3] + WON[:3]:
            side, listed = certify(Contract(*told))
            solved = Solved(*told)
            for at, position in itertools.product(range(len(listed)), solved.positions):
                entry = list(position) if side == "manager" else (list(position), listed[at][1])
                changed = (side, listed[:at] + [entry] + listed[at + 1:])
                self.assertEqual(check(Contract(*told), changed), shown(solved, changed), (told, changed))

    def test_positions_that_are_listed_besides(self):
        for told in LOST[:3] + WON[:3]:
            side, listed = certify(Contract(*told))
            solved = Solved(*told)
            for position in solved.positions:
                entries = [list(position)] if side == "manager" else [(list(position), rank) for rank in range(8)]
                for entry in entries:
                    more = (side, listed + [entry])
                    self.assertEqual(check(Contract(*told), more), shown(solved, more), (told, more))

    def test_a_rank_that_is_too_small_or_too_great(self):
        for told in LOST:
            _, listed = certify(Contract(*told))
            solved = Solved(*told)
            for at, by in itertools.product(range(len(listed)), (-2, -1, 1, 2, 100)):
                layout, rank = listed[at]
                changed = ("program", listed[:at] + [(layout, rank + by)] + listed[at + 1:])
                self.assertEqual(check(Contract(*told), changed), shown(solved, changed), (told, at, by))

    def test_ranks_of_single_entries(self):
        told = (3, 3, [1, 2], 0)
        _, listed = certify(Contract(*told))
        self.assertEqual(listed[1], ([(0, 1)], 5))
        self.assert_shows(told, ("program", [([], 7)] + listed[1:]), "program")
        self.assert_shows(told, ("program", [([], 5)] + listed[1:]), None)
        self.assert_shows(told, ("program", listed[:1] + [([(0, 1)], 6)] + listed[2:]), None)
        self.assert_shows(told, ("program", [([], 7), ([(0, 1)], 6)] + listed[2:]), "program")

    def test_all_ranks_raised_or_lowered_together(self):
        for told in LOST:
            _, listed = certify(Contract(*told))
            for by in (-100, -1, 1, 10 ** 20):
                self.assert_shows(told, ("program", [(layout, rank + by) for layout, rank in listed]), "program")

    def test_a_layout_that_is_listed_with_several_ranks(self):
        told = (3, 3, [1, 2], 0)
        _, listed = certify(Contract(*told))
        self.assert_shows(told, ("program", [([], 9)] + listed), "program")
        self.assert_shows(told, ("program", listed + [([(1, 1)], 8)]), "program")
        # The second entry of this layout is too small to hold, although the first one holds.
        self.assert_shows(told, ("program", listed + [([(0, 1)], 4)]), None)

    def test_an_entry_that_only_leads_to_itself(self):
        self.assert_shows((3, 3, [1], 0), ("program", [([], 2), ([(0, 1)], 1), ([(0, 1)], 3)]), None)
        self.assert_shows((2, 2, [1, 2], 0), ("program", [([], 1), ([], 2), ([(0, 1)], 1)]), None)

    def test_a_position_without_moves(self):
        self.assert_shows((3, 0, [1], 0), ("manager", [[]]), "manager")
        self.assert_shows((3, 0, [1], 0), ("program", [([], 1)]), None)
        self.assert_shows((2, 2, [3], 0), ("manager", [[]]), "manager")

    def test_a_request_without_replies(self):
        self.assert_shows((2, 3, [3], 2), ("program", [([], 1)]), "program")
        self.assert_shows((2, 3, [3], 2), ("program", [([], -4)]), "program")
        self.assert_shows((2, 3, [3], 2), ("manager", [[]]), None)

    def test_layouts_that_are_no_positions(self):
        for layout in ([(0, 3)], [(0, 0)], [(3, 1), (0, 1)], [(0, 2), (1, 1)], [(4, 1)], [(3, 2)],
                       [(0, 2), (2, 2)], [(0, 1), (0, 1)]):
            self.assert_shows((4, 3, [1, 2], 0), ("manager", certify(Contract(4, 3, [1, 2], 0))[1] + [layout]), None)
        for layout in ([(0, 3)], [(3, 1)], [(1, 1), (0, 1)], [(2, 2)], [(0, 1), (0, 1)]):
            listed = certify(Contract(3, 3, [1, 2], 0))[1]
            self.assert_shows((3, 3, [1, 2], 0), ("program", listed + [(layout, 100)]), None)
        self.assert_shows((3, 0, [1], 0), ("manager", [[], [(0, 1)]]), None)

    def test_the_side_must_be_the_right_one(self):
        for told in LOST:
            listed = [layout for layout, _ in certify(Contract(*told))[1]]
            self.assert_shows(told, ("manager", listed), None)
            self.assert_shows(told, ("manager", [list(position) for position in Solved(*told).positions]), None)
        for told in WON:
            listed = certify(Contract(*told))[1]
            self.assert_shows(told, ("program", [(layout, at) for at, layout in enumerate(listed)]), None)
            self.assert_shows(told, ("program", [(layout, -at) for at, layout in enumerate(listed)]), None)

    def test_another_side_shows_nothing(self):
        self.assertIsNone(check(Contract(3, 0, [1], 0), ("nobody", [[]])))

    def test_certificates_of_other_contracts_better_and_worse(self):
        for told, other in itertools.product(LOST + WON, repeat=2):
            certificate = certify(Contract(*other))
            self.assertEqual(check(Contract(*told), certificate), shown(Solved(*told), certificate), (told, other))
        certificate = certify(Contract(4, 3, [1, 2], 0))
        self.assert_shows((5, 3, [1, 2], 1), certificate, "manager")
        self.assert_shows((4, 3, [1], 0), certificate, None)        # better, but there are blocks of 2 cells
        self.assert_shows((4, 4, [1, 2], 0), certificate, None)
        self.assert_shows((3, 3, [1, 2], 0), certificate, None)
        certificate = certify(Contract(3, 3, [1, 2], 0))
        self.assert_shows((3, 3, [1, 2, 3], 0), certificate, "program")
        self.assert_shows((3, 3, [1, 2], 1), certificate, None)
        self.assert_shows((4, 3, [1, 2], 0), certificate, None)

    def test_all_lists_of_positions_of_a_tiny_heap(self):
        """Whatever is listed: only the winner can be shown."""
        for told in ((2, 2, [1, 2], 0), (2, 2, [1, 2], 1), (2, 2, [1], 0)):
            solved = Solved(*told)
            sides = set()
            for chosen in itertools.product((False, True), repeat=len(solved.positions)):
                listed = [list(position) for position in itertools.compress(solved.positions, chosen)]
                sides.add(check(Contract(*told), ("manager", listed)))
                self.assertEqual(check(Contract(*told), ("manager", listed)), shown(solved, ("manager", listed)))
            self.assertEqual(sides, {None} if () in solved.ranks else {None, "manager"})
            sides = set()
            for ranks in itertools.product((None, 1, 2, 3), repeat=len(solved.positions)):
                listed = [(list(position), rank) for position, rank in zip(solved.positions, ranks) if rank]
                sides.add(check(Contract(*told), ("program", listed)))
                self.assertEqual(check(Contract(*told), ("program", listed)), shown(solved, ("program", listed)))
            self.assertLessEqual(sides, {None, "program"} if () in solved.ranks else {None})


class ListsTest(unittest.TestCase):
    """Promise 3."""

    def test_a_certificate_that_is_passed_in_stays(self):
        for told in LOST + WON:
            contract = Contract(*told)
            certificate = certify(contract)
            before = copy.deepcopy(certificate)
            check(contract, certificate)
            self.assertEqual(certificate, before)
            self.assertEqual(contract.lengths, told[2])

    def test_each_list_that_is_returned_is_a_new_one(self):
        for told in LOST + WON:
            contract = Contract(*told)
            side, listed = certify(contract)
            for row in listed:
                (row if side == "manager" else row[0]).append("changed")
            listed.append("changed")
            self.assertEqual(certify(contract), walk(Solved(*told)))


class TimeTest(unittest.TestCase):
    def test_contracts_of_five_and_of_eight_cells_take_seconds(self):
        for size, lengths, seconds in ((5, [1], 2), (5, [1, 2], 2), (5, [1, 2, 3], 2), (8, [1, 2, 3], 20)):
            contract = Contract(size, size, lengths, 2)
            before = time.process_time()
            check(contract, certify(contract))
            self.assertLess(time.process_time() - before, seconds)


if __name__ == "__main__":
    unittest.main()
