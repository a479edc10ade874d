import unittest
from fractions import Fraction
from itertools import permutations

from tests.helper import (GREATEST, all_ends, all_out, all_parts, ask, begin, cancel, hand, hold, last, lost, of_each,
                          realstrewn, strewn)

# Of each the calls, how many people and companies, and what is strewn in the end and lost of each company.
CORNERS = {
    "all parts strewn": ([begin(2, 3)], 2, 3, [(1, 1), (1, 1), (1, 1)], [(0, 1), (0, 1), (0, 1)]),
    "all held by people": ([begin(2, 1), hold(0, 0, 1, 2), hold(1, 0, 1, 2)], 2, 1, [(0, 1)], [(0, 1)]),
    "a company nobody holds": (
        [begin(1, 2), hold(1, 1, 1, 3), hold(0, 1, 1, 2)], 1, 2, [(1, 1), (1, 2)], [(0, 1), (0, 1)]),
    "by way of others": (
        [begin(1, 3), hold(0, 0, 1, 2), hold(1, 1, 1, 2), hold(2, 2, 1, 2), hold(0, 2, 1, 4)], 1, 3,
        [(1, 2), (3, 4), (5, 8)], [(0, 1), (0, 1), (0, 1)]),
    "holds itself in part": ([begin(1, 1), hold(0, 0, 1, 4), hold(1, 0, 1, 2)], 1, 1, [(1, 2)], [(0, 1)]),
    "holds itself but for a hundredth": ([begin(1, 1), hold(1, 0, 99, 100)], 1, 1, [(1, 1)], [(0, 1)]),
    "holds itself wholly": ([begin(1, 1), hold(1, 0, 1, 1)], 1, 1, [(0, 1)], [(1, 1)]),
    "held in part by one that holds itself wholly": (
        [begin(1, 2), hold(1, 0, 1, 1), hold(1, 1, 1, 4), hold(2, 1, 1, 4), hold(0, 1, 1, 4)], 1, 2,
        [(0, 1), (1, 3)], [(1, 1), (1, 3)]),
    "two that hold each other": (
        [begin(1, 2), hold(0, 0, 1, 2), hold(2, 0, 1, 2), hold(1, 1, 1, 2)], 1, 2, [(1, 3), (2, 3)], [(0, 1), (0, 1)]),
    "two that hold each other wholly": (
        [begin(1, 2), hold(2, 0, 1, 1), hold(1, 1, 1, 1)], 1, 2, [(0, 1), (0, 1)], [(1, 1), (1, 1)]),
    "one that holds the other, which holds itself and it": (
        [begin(1, 2), hold(2, 0, 1, 1), hold(1, 1, 1, 2), hold(2, 1, 1, 2)], 1, 2, [(0, 1), (0, 1)], [(1, 1), (1, 1)]),
    "a closed ring of five": (
        [begin(1, 5)] + [hold(1 + (j + 1) % 5, j, 1, 1) for j in range(5)], 1, 5, [(0, 1)] * 5, [(1, 1)] * 5),
    "a ring of five with one hundredth strewn": (
        [begin(1, 5)] + [hold(1 + (j + 1) % 5, j, 1 if j else 99, 1 if j else 100) for j in range(5)], 1, 5,
        [(1, 1)] * 5, [(0, 1)] * 5),
    "held in part by a closed ring": (
        [begin(1, 3), hold(2, 0, 1, 1), hold(1, 1, 1, 1), hold(1, 2, 1, 2), hold(2, 2, 1, 8), hold(0, 2, 1, 4)], 1, 3,
        [(0, 1), (0, 1), (1, 8)], [(1, 1), (1, 1), (5, 8)]),
    "held by one that a closed ring holds": (
        [begin(1, 4), hold(2, 0, 1, 1), hold(1, 1, 1, 1), hold(1, 2, 1, 2), hold(0, 2, 1, 2), hold(3, 3, 1, 3)], 1, 4,
        [(0, 1), (0, 1), (0, 1), (2, 3)], [(1, 1), (1, 1), (1, 2), (1, 6)]),
    "held by two closed rings": (
        [begin(1, 4), hold(2, 0, 1, 1), hold(1, 1, 1, 1), hold(3, 2, 1, 1), hold(1, 3, 1, 3), hold(3, 3, 1, 3)], 1, 4,
        [(0, 1), (0, 1), (0, 1), (1, 3)], [(1, 1), (1, 1), (1, 1), (2, 3)]),
    "a closed ring that holds some of what a person holds": (
        [begin(1, 2), hold(0, 0, 1, 2), hold(2, 0, 1, 2), hold(2, 1, 1, 1)], 1, 2, [(0, 1), (0, 1)], [(1, 2), (1, 1)]),
}


def told(call, calls, n):
    return [part.as_integer_ratio() for part in of_each(call, calls, n)]


class Corners(unittest.TestCase):
    def test_realstrewn(self):
        for corner, (calls, m, n, expected, gone) in CORNERS.items():
            self.assertEqual(told(realstrewn, calls, n), expected, corner)

    def test_lost(self):
        for corner, (calls, m, n, expected, gone) in CORNERS.items():
            self.assertEqual(told(lost, calls, n), gone, corner)

    def test_with_what_the_people_really_own_they_are_1_together(self):
        for corner, (calls, m, n, expected, gone) in CORNERS.items():
            ends = all_ends(calls, m, n)
            self.assertEqual([sum(end[j] for end in ends) for j in range(n)], [1] * n, corner)

    def test_they_stay_behind_cancel_hand_and_all(self):
        for corner, (calls, m, n, expected, gone) in CORNERS.items():
            for call in [call(i) for i in range(n) for call in (cancel, hand)] + [all_out([]), all_out(range(n))]:
                self.assertEqual(told(realstrewn, calls + [call], n), expected, (corner, call))
                self.assertEqual(told(lost, calls + [call], n), gone, (corner, call))

    def test_they_stay_in_whatever_order_companies_hand_out(self):
        for corner, (calls, m, n, expected, gone) in CORNERS.items():
            for order in list(permutations(range(n)))[::1 if n < 5 else 7]:
                for row in ([all_out(order)], [all_out(order * 2)], [hand(i) for i in order],
                            [call(i) for i in order for call in (cancel, hand)]):
                    self.assertEqual(told(realstrewn, calls + row, n), expected, (corner, row))
                    self.assertEqual(told(lost, calls + row, n), gone, (corner, row))

    def test_all_having_handed_out_what_is_strewn_in_the_end_is_strewn(self):
        for corner, (calls, m, n, expected, gone) in CORNERS.items():
            self.assertEqual(told(strewn, calls + [all_out(range(n))], n), expected, corner)


class InTheEnd(unittest.TestCase):
    def test_as_near_as_one_likes_behind_enough_steps(self):
        # Company 3 holds itself wholly: what comes there is lost.
        calls = [begin(1, 4), hold(0, 0, 1, 5), hold(1, 0, 1, 7), hold(2, 0, 2, 5), hold(4, 0, 1, 9), hold(1, 1, 1, 3),
                 hold(3, 1, 2, 5), hold(0, 2, 1, 13), hold(2, 2, 1, 2), hold(4, 2, 1, 4), hold(4, 3, 1, 1)]
        parts = all_parts(calls, 1, 4)
        spilt = of_each(strewn, calls, 4)
        for j in range(4):
            came = Fraction(0)
            goes = [Fraction(k == j) for k in range(4)]
            for step in range(60):
                came += sum(goes[k] * spilt[k] for k in range(4))
                goes = [sum(goes[k] * parts[1 + to, k] for k in range(4)) for to in range(4)]
                # Rounded off, since only nearness is asked; the numbers would grow long.
                goes = [Fraction(int(x * 10 ** 30), 10 ** 30) for x in goes]
            self.assertLess(abs(of_each(realstrewn, calls, 4)[j] - came), Fraction(1, 10 ** 6))
            self.assertLess(abs(of_each(lost, calls, 4)[j] - sum(goes)), Fraction(1, 10 ** 6))

    def test_hold_opens_a_closed_ring(self):
        closed = [begin(1, 2), hold(2, 0, 1, 1), hold(1, 1, 1, 1)]
        self.assertEqual(told(lost, closed, 2), [(1, 1), (1, 1)])
        opened = closed + [hold(2, 0, 99, 100)]
        self.assertEqual(told(lost, opened, 2), [(0, 1), (0, 1)])
        self.assertEqual(told(realstrewn, opened, 2), [(1, 1), (1, 1)])
        self.assertEqual(told(realstrewn, opened + [hold(0, 0, 1, 100)], 2), [(0, 1), (0, 1)])

    def test_there_is_no_such_company(self):
        for n in range(1, 6):
            for call, none in ((lost, [0, 0, 1]), (realstrewn, [0, 1, 1])):
                calls = [begin(4, n), call(n - 1), call(n), call(n + 1), call(GREATEST)]
                self.assertEqual(ask(calls)[1:], [none, [-2], [-2], [-2]])

    def test_a_person_or_a_holder_is_no_company(self):
        for call in (lost, realstrewn, strewn):
            self.assertEqual(last([begin(3, 1), call(2)]), [-2])
            self.assertEqual(last([begin(3, 1), call(3)]), [-2])


if __name__ == "__main__":
    unittest.main()
