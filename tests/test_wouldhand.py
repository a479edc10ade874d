import unittest
from random import Random

from tests.helper import (GREATEST, RING, all_out, all_parts, ask, ask_behind, begin, cancel, hand, hold, holdings,
                          last, part, wouldhand)


def cases():
    yield RING, 2, 3
    yield [begin(4, 5)], 4, 5
    yield [begin(1, 1), hold(0, 0, 1, 4), hold(1, 0, 1, 2)], 1, 1
    yield [begin(1, 2), hold(2, 0, 1, 1), hold(1, 1, 1, 1)], 1, 2
    random = Random(17)
    for count in range(40):
        m, n = random.randint(1, 4), random.randint(1, 5)
        yield holdings(random, m, n, random.choice((1, 2, 3, 7, 100)))[:30], m, n


class WouldHand(unittest.TestCase):
    def test_what_each_holder_would_have(self):
        calls = [begin(2, 2), hold(0, 0, 1, 2), hold(1, 0, 1, 3), hold(2, 1, 3, 4), hold(1, 1, 1, 8)]
        self.assertEqual(last(calls + [wouldhand(0, 1)]), [4, 3, 8, 3, 8, 0, 1, 0, 1])
        self.assertEqual(last(calls + [wouldhand(0, 0)]), [4, 1, 2, 1, 3, 0, 1, 0, 1])
        self.assertEqual(last(calls + [wouldhand(1, 0)]), [4, 1, 2, 1, 3, 0, 1, 0, 1])
        self.assertEqual(last(calls + [wouldhand(1, 1)]), [4, 0, 1, 1, 8, 3, 4, 0, 1])

    def test_a_company_that_holds_some_of_itself(self):
        calls = [begin(1, 2), hold(0, 0, 1, 4), hold(1, 0, 1, 2), hold(2, 0, 1, 4), hold(1, 1, 1, 3)]
        self.assertEqual(last(calls + [wouldhand(0, 0)]), [3, 1, 2, 0, 1, 1, 2])
        self.assertEqual(last(calls + [wouldhand(0, 1)]), [3, 1, 6, 0, 1, 1, 6])

    def test_two_that_hold_each_other(self):
        calls = [begin(1, 2), hold(0, 0, 1, 2), hold(2, 0, 1, 2), hold(0, 1, 2, 3), hold(1, 1, 1, 3)]
        self.assertEqual(last(calls + [wouldhand(0, 1)]), [3, 5, 6, 0, 1, 1, 6])
        self.assertEqual(last(calls + [wouldhand(1, 0)]), [3, 5, 6, 1, 6, 0, 1])

    def test_a_company_nobody_holds(self):
        calls = [begin(1, 2), hold(0, 1, 1, 3), hold(1, 1, 2, 3)]
        self.assertEqual(last(calls + [wouldhand(0, 1)]), [3, 1, 3, 0, 1, 0, 1])

    def test_a_ring_that_is_wholly_closed(self):
        closed = [begin(1, 2), hold(2, 0, 1, 1), hold(1, 1, 1, 1)]
        self.assertEqual(last(closed + [wouldhand(0, 1)]), [3, 0, 1, 0, 1, 1, 1])
        self.assertEqual(last(closed + [wouldhand(0, 0)]), [3, 0, 1, 0, 1, 1, 1])
        self.assertEqual(last(closed + [hand(0), wouldhand(1, 0)]), [-33])

    def test_all_parts_strewn(self):
        for m in range(1, 5):
            for n in range(1, 6):
                self.assertEqual(last([begin(m, n), wouldhand(n - 1, 0)]), [m + n] + [0, 1] * (m + n))

    def test_it_tells_what_part_tells_behind_hand(self):
        for calls, m, n in cases():
            for i in range(n):
                if last(calls + [hand(i)])[0] < 0:
                    continue
                for j in range(n):
                    parts = ask_behind(calls + [hand(i)], [part(h, j) for h in range(m + n)])
                    expected = [m + n] + [number for told in parts for number in told[1:]]
                    self.assertEqual(last(calls + [wouldhand(i, j)]), expected, (calls, i, j))

    def test_it_changes_nothing(self):
        for calls, m, n in cases():
            parts = all_parts(calls, m, n)
            for i in range(n):
                self.assertEqual(all_parts(calls + [wouldhand(i, n - 1 - i)], m, n), parts, (calls, i))
                self.assertEqual(last(calls + [wouldhand(i, 0), hand(i)]), last(calls + [hand(i)]))

    def test_there_is_no_such_company(self):
        for n in range(1, 6):
            for no in (n, n + 1, GREATEST):
                calls = [begin(4, n), wouldhand(no, 0), wouldhand(0, no), wouldhand(no, no)]
                self.assertEqual(ask(calls)[1:], [[-2]] * 3)

    def test_a_company_that_holds_itself_wholly(self):
        calls = [begin(1, 2), hold(1, 0, 1, 1), hold(1, 1, 1, 2)]
        self.assertEqual(last(calls + [wouldhand(0, 0)]), [-33])
        self.assertEqual(last(calls + [wouldhand(0, 1)]), [-33])
        self.assertEqual(last(calls + [wouldhand(1, 0)]), [3, 0, 1, 1, 1, 0, 1])
        self.assertEqual(last(calls + [hold(1, 0, 99, 100), wouldhand(0, 1)]), [3, 0, 1, 0, 1, 0, 1])

    def test_minus_2_goes_before_minus_33(self):
        calls = [begin(1, 2), hold(1, 0, 1, 1)]
        for no in (2, 3, GREATEST):
            self.assertEqual(ask(calls + [wouldhand(0, no), wouldhand(no, 0)])[2:], [[-2], [-2]])

    def test_a_refusal_changes_nothing(self):
        calls = [begin(1, 2), hold(1, 0, 1, 1), hold(1, 1, 1, 2)]
        parts = all_parts(calls, 1, 2)
        for refused in (wouldhand(0, 0), wouldhand(0, 1), wouldhand(2, 0), wouldhand(1, 2)):
            self.assertEqual(all_parts(calls + [refused], 1, 2), parts)

    def test_twice_handed_out(self):
        calls = [begin(1, 2), hold(0, 0, 1, 2), hold(1, 0, 1, 4), hold(1, 1, 1, 2)]
        for behind in ([hand(0)], [all_out([0])], [cancel(0), hand(0)]):
            self.assertEqual(ask(calls + behind + [wouldhand(0, 0), wouldhand(0, 1)])[-2:],
                             [[3, 2, 3, 0, 1, 0, 1], [3, 1, 3, 0, 1, 0, 1]])


if __name__ == "__main__":
    unittest.main()
