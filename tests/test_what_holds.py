import unittest
from fractions import Fraction
from itertools import permutations
from random import Random

from tests.helper import (GREATEST, RING, Model, all_ends, all_out, all_parts, all_real, ask, begin, cancel, hand, hold,
                          holdings, last, lost, of_each, owned, part, realstrewn, sell, strewn)


def cases():
    """Calls that make holdings, with how many people and companies there are."""
    yield RING, 2, 3
    yield [begin(1, 2), hold(2, 0, 1, 1), hold(1, 1, 1, 1)], 1, 2
    yield [begin(1, 3), hold(2, 0, 1, 1), hold(1, 1, 1, 1), hold(1, 2, 1, 2), hold(0, 2, 1, 2)], 1, 3
    yield [begin(1, 2), hold(1, 0, 1, 1), hold(1, 1, 1, 2), hold(0, 1, 1, 4), hold(2, 1, 1, 4)], 1, 2
    yield [begin(4, 5)], 4, 5
    random = Random(11)
    for count in range(60):
        m, n = random.randint(1, 4), random.randint(1, 5)
        yield holdings(random, m, n, random.choice((1, 2, 3, 4, 7, 12, 100)))[:36], m, n


class WhatHolds(unittest.TestCase):
    def test_by_cancel_and_hand_nobody_gains_or_loses(self):
        for calls, m, n in cases():
            ends = all_ends(calls, m, n)
            for i in range(n):
                for call in (cancel(i), hand(i), all_out([i])):
                    behind = calls + [call]
                    self.assertEqual(all_ends(behind, m, n), ends, behind)
                    self.assertEqual(owned(all_parts(behind, m, n), m, n), ends, behind)

    def test_by_one_behind_another_nobody_gains_or_loses(self):
        for calls, m, n in cases():
            ends = all_ends(calls, m, n)
            behind = list(calls)
            for i in range(min(n, 3)):
                behind += [hand(n - 1 - i)]
                self.assertEqual(all_ends(behind, m, n), ends, behind)

    def test_by_all_in_whatever_order_nobody_gains_or_loses(self):
        for calls, m, n in cases():
            ends = all_ends(calls, m, n)
            for order in list(permutations(range(n)))[::1 if n < 4 else 17]:
                behind = calls + [all_out(order)]
                self.assertGreaterEqual(last(behind)[0], 0, behind)
                self.assertEqual(all_ends(behind, m, n), ends, behind)

    def test_the_ends_are_what_the_equations_say(self):
        for calls, m, n in cases():
            self.assertEqual(all_ends(calls, m, n), owned(all_parts(calls, m, n), m, n), calls)

    def test_the_ends_are_1_together(self):
        for calls, m, n in cases():
            ends = all_ends(calls, m, n)
            self.assertEqual([sum(end[j] for end in ends) for j in range(n)], [1] * n, calls)
            self.assertGreaterEqual(min(min(end) for end in ends), 0, calls)

    def test_the_parts_and_what_is_strewn_are_1_together(self):
        for calls, m, n in cases():
            parts = all_parts(calls, m, n)
            left = of_each(strewn, calls, n)
            self.assertEqual([sum(parts[h, j] for h in range(m + n)) + left[j] for j in range(n)], [1] * n, calls)

    def test_some_is_lost_in_some_cases_and_strewn_in_some(self):
        # Or the tests above would say little of these.
        for call in (lost, realstrewn):
            told = [part for calls, m, n in cases() for part in of_each(call, calls, n)]
            self.assertTrue({0, 1} < set(told))

    def test_all_having_handed_out_each_has_straight_what_they_really_owned(self):
        for calls, m, n in cases():
            if any(owned(all_parts(calls, m, n), m, n)[-1]):
                continue
            straight = all_real(calls, m, n)
            for order in list(permutations(range(n)))[::1 if n < 4 else 17]:
                behind = calls + [all_out(order)]
                self.assertEqual(last(behind), [0])
                parts = all_parts(behind, m, n)
                self.assertEqual({key: parts[key] for key in straight}, straight, behind)
                self.assertEqual({parts[m + i, j] for i in range(n) for j in range(n)}, {0}, behind)
                self.assertEqual(of_each(strewn, behind, n), of_each(realstrewn, calls, n), behind)

    def test_by_hand_in_every_order_too(self):
        straight = all_real(RING, 2, 3)
        for order in permutations(range(3)):
            parts = all_parts(RING + [hand(i) for i in order], 2, 3)
            self.assertEqual({key: parts[key] for key in straight}, straight, order)
            self.assertEqual({parts[2 + i, j] for i in range(3) for j in range(3)}, {0}, order)

    def test_parts_are_never_below_0_nor_more_than_1_together(self):
        for calls, m, n in cases():
            for behind in [calls] + [calls + [call(i)] for i in range(n) for call in (cancel, hand)] + [
                    calls + [all_out(range(n))]]:
                parts = all_parts(behind, m, n)
                self.assertGreaterEqual(min(parts.values()), 0, behind)
                self.assertGreaterEqual(min(of_each(strewn, behind, n)), 0, behind)
                for j in range(n):
                    self.assertLessEqual(sum(parts[h, j] for h in range(m + n)), 1, behind)


def number(random, few):
    """Mostly a number below few, sometimes one about it or at the edges."""
    return random.choice((few, few + 1, 101, GREATEST)) if random.random() < 0.03 else random.randrange(few)


def some_part(random):
    b = random.choice((1, 2, 3, 4, 10, 97, 100)) if random.random() < 0.97 else random.choice((0, 101, GREATEST))
    return (random.randint(0, b) if random.random() < 0.97 else b + 1), b


def some_call(random, m, n):
    def holder():
        return number(random, m + n)

    def company():
        return number(random, n)

    kind = random.choice((0, 1, 1, 1, 1, 1, 1, 1, 1, 2, 2, 2, 3, 4, 4, 5, 6, 6, 7, 7, 8, 9, 10, 11, 11, 12, 13, 14, 14,
                          15))
    if kind == 0:
        return begin(number(random, 6), number(random, 7)) if random.random() < 0.02 else part(holder(), company())
    if kind == 1:
        return hold(holder(), company(), *some_part(random))
    if kind == 2:
        return sell(holder(), holder(), company(), *some_part(random))
    if kind == 5:
        return all_out([company() for count in range(random.choice((0, 1, 2, 3, 5, 12, 12, 13)))])
    if kind in (12, 13, 15):
        return [kind]
    if kind == 14:
        return [kind, company(), company()]
    if kind in (6, 7):
        return [kind, holder(), company()]
    return [kind, company()]


class AgainstTheModel(unittest.TestCase):
    def test_lines_at_random_answer_as_the_model_does(self):
        random = Random(5)
        for line in range(1500):
            m, n = random.randint(1, 4), random.randint(1, 5)
            calls = [begin(m, n)] + [some_call(random, m, n) for count in range(39)]
            model = Model()
            self.assertEqual(ask(calls), [model.ask(call) for call in calls], calls)


class TheModel(unittest.TestCase):
    def test_it_knows_what_is_strewn_and_lost(self):
        parts = {(0, 0): Fraction(1, 4), (1, 0): Fraction(1, 4), (2, 0): Fraction(1, 4),
                 (0, 1): Fraction(0), (1, 1): Fraction(0), (2, 1): Fraction(1)}
        self.assertEqual(owned(parts, 1, 2), [[Fraction(1, 3), 0], [Fraction(1, 3), 0], [Fraction(1, 3), 1]])


if __name__ == "__main__":
    unittest.main()
