import unittest
from fractions import Fraction

from tests.helper import GREATEST, all_parts, all_real, ask, begin, hold, last, part, real


def owned(calls, m, n):
    """What is really owned behind the calls where it isn't 0, each as its two numbers."""
    return {key: part.as_integer_ratio() for key, part in all_real(calls, m, n).items() if part != 0}


class Real(unittest.TestCase):
    def test_what_is_held_straight(self):
        calls = [begin(2, 2), hold(0, 0, 2, 4), hold(1, 0, 1, 3), hold(1, 1, 1, 1)]
        self.assertEqual(owned(calls, 2, 2), {(0, 0): (1, 2), (1, 0): (1, 3), (1, 1): (1, 1)})

    def test_what_comes_by_way_of_others(self):
        calls = [begin(1, 3), hold(0, 0, 1, 2), hold(1, 1, 1, 2), hold(2, 2, 1, 2), hold(0, 2, 1, 4)]
        self.assertEqual(owned(calls, 1, 3), {(0, 0): (1, 2), (0, 1): (1, 4), (0, 2): (3, 8)})

    def test_a_company_that_holds_itself(self):
        calls = [begin(2, 1), hold(0, 0, 1, 4), hold(1, 0, 1, 8), hold(2, 0, 1, 2)]
        self.assertEqual(owned(calls, 2, 1), {(0, 0): (1, 2), (1, 0): (1, 4)})
        self.assertEqual(owned([begin(1, 1), hold(0, 0, 1, 100), hold(1, 0, 99, 100)], 1, 1), {(0, 0): (1, 1)})
        self.assertEqual(owned([begin(1, 1), hold(1, 0, 1, 1)], 1, 1), {})

    def test_two_that_hold_each_other(self):
        calls = [begin(1, 2), hold(0, 0, 1, 2), hold(1, 1, 1, 2), hold(2, 0, 1, 2)]
        self.assertEqual(owned(calls, 1, 2), {(0, 0): (2, 3), (0, 1): (1, 3)})
        both = [begin(2, 2), hold(0, 0, 1, 3), hold(3, 0, 2, 3), hold(1, 1, 1, 2), hold(2, 1, 1, 2)]
        self.assertEqual(owned(both, 2, 2), {(0, 0): (1, 2), (1, 0): (1, 2), (0, 1): (1, 4), (1, 1): (3, 4)})

    def test_a_ring_that_is_wholly_closed(self):
        closed = [begin(1, 3), hold(2, 0, 1, 1), hold(1, 1, 1, 1)]
        self.assertEqual(owned(closed, 1, 3), {})
        half = closed + [hold(1, 2, 1, 2), hold(0, 2, 1, 2)]
        self.assertEqual(owned(half, 1, 3), {(0, 2): (1, 2)})

    def test_a_company_nobody_holds(self):
        calls = [begin(1, 2), hold(1, 1, 1, 2), hold(0, 1, 1, 2)]
        self.assertEqual(owned(calls, 1, 2), {(0, 1): (1, 2)})

    def test_all_parts_strewn(self):
        self.assertEqual(owned([begin(4, 5)], 4, 5), {})

    def test_a_long_ring(self):
        # Of each company the next one holds half and person 0 a quarter: x is a quarter and half of x.
        ring = [begin(1, 5)] + [hold(1 + (j + 1) % 5, j, 1, 2) for j in range(5)]
        calls = ring + [hold(0, j, 1, 4) for j in range(5)]
        self.assertEqual(owned(calls, 1, 5), {(0, j): (1, 2) for j in range(5)})
        # One person at one company alone: 1 by 2 a step, over 1 less 1 by 32.
        calls = ring + [hold(0, 0, 1, 2)]
        steps = {0: 0, 4: 1, 3: 2, 2: 3, 1: 4}
        expected = {(0, j): (Fraction(1, 2 ** (steps[j] + 1)) / Fraction(31, 32)).as_integer_ratio() for j in range(5)}
        self.assertEqual(owned(calls, 1, 5), expected)

    def test_as_near_as_one_likes_behind_enough_steps(self):
        calls = [begin(2, 3), hold(0, 0, 1, 5), hold(2, 0, 1, 7), hold(3, 0, 2, 5), hold(4, 0, 1, 9), hold(1, 1, 1, 11),
                 hold(2, 1, 1, 3), hold(4, 1, 2, 5), hold(0, 2, 1, 13), hold(3, 2, 3, 4)]
        parts = all_parts(calls, 2, 3)
        told = all_real(calls, 2, 3)
        for j in range(3):
            came = [Fraction(0), Fraction(0)]
            goes = [Fraction(k == j) for k in range(3)]
            for step in range(60):
                came = [came[p] + sum(goes[k] * parts[p, k] for k in range(3)) for p in range(2)]
                goes = [sum(goes[k] * parts[2 + to, k] for k in range(3)) for to in range(3)]
                # Rounded off, since only nearness is asked; the numbers would grow long.
                goes = [Fraction(int(x * 10 ** 30), 10 ** 30) for x in goes]
            for p in range(2):
                self.assertLess(abs(told[p, j] - came[p]), Fraction(1, 10 ** 6))

    def test_there_is_no_such_person_or_company(self):
        for p, j in ((2, 0), (3, 0), (4, 0), (GREATEST, 0), (0, 3), (0, 4), (0, GREATEST), (2, 3),
                     (GREATEST, GREATEST)):
            self.assertEqual(last([begin(2, 3), real(p, j)]), [-2], (p, j))
        self.assertEqual(last([begin(2, 3), real(1, 2)]), [0, 0, 1])

    def test_asking_changes_nothing(self):
        calls = [begin(1, 2), hold(0, 0, 1, 2), hold(1, 1, 1, 2), hold(2, 0, 1, 2)]
        asked = [part(0, 1), part(1, 1), part(2, 0)]
        told = ask(calls + asked + [real(0, 1), real(1, 1), real(0, 2)] + asked)
        self.assertEqual(told[4:7], told[10:])


if __name__ == "__main__":
    unittest.main()
