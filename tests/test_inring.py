import unittest

from tests.helper import GREATEST, all_out, ask, ask_behind, begin, cancel, hand, hold, inring, last, sell


def ringed(calls, n):
    """Which companies are in a ring behind the calls."""
    told = ask_behind(calls, [inring(i) for i in range(n)])
    if any(answer not in ([0], [1]) for answer in told):
        raise ValueError("neither 1 nor 0 is told")
    return [i for i in range(n) if told[i] == [1]]


class InRing(unittest.TestCase):
    def test_nobody_holds_anything(self):
        for n in range(1, 6):
            self.assertEqual(ringed([begin(1, n)], n), [])

    def test_people_alone_make_no_ring(self):
        self.assertEqual(ringed([begin(2, 2), hold(0, 0, 1, 2), hold(1, 0, 1, 2), hold(0, 1, 1, 1)], 2), [])

    def test_a_company_that_holds_itself(self):
        self.assertEqual(ringed([begin(1, 2), hold(1, 0, 1, 100)], 2), [0])
        self.assertEqual(ringed([begin(1, 2), hold(2, 1, 1, 1)], 2), [1])

    def test_a_ring_of_two(self):
        self.assertEqual(ringed([begin(1, 3), hold(1, 2, 1, 2), hold(3, 0, 1, 3)], 3), [0, 2])

    def test_one_way_is_no_ring(self):
        self.assertEqual(ringed([begin(1, 2), hold(1, 1, 1, 1)], 2), [])
        self.assertEqual(ringed([begin(1, 5)] + [hold(1 + i, i + 1, 1, 2) for i in range(4)], 5), [])

    def test_a_ring_of_five(self):
        for step in (1, 2, 3, 4):
            calls = [begin(1, 5)] + [hold(1 + i, (i + step) % 5, 1, 2) for i in range(5)]
            self.assertEqual(ringed(calls, 5), [0, 1, 2, 3, 4])
            for cut in range(5):
                self.assertEqual(ringed(calls + [hold(1 + cut, (cut + step) % 5, 0, 1)], 5), [])

    def test_a_company_that_only_holds_some_of_one_in_a_ring(self):
        ring = [begin(1, 4), hold(2, 2, 1, 2), hold(3, 1, 1, 2)]
        self.assertEqual(ringed(ring + [hold(1, 1, 1, 2)], 4), [1, 2])
        self.assertEqual(ringed(ring + [hold(4, 1, 1, 2), hold(1, 3, 1, 2)], 4), [1, 2])
        self.assertEqual(ringed([begin(1, 2), hold(2, 1, 1, 2), hold(1, 1, 1, 2)], 2), [1])

    def test_a_company_that_is_only_held_by_one_in_a_ring(self):
        ring = [begin(1, 4), hold(2, 2, 1, 2), hold(3, 1, 1, 2)]
        self.assertEqual(ringed(ring + [hold(2, 0, 1, 2)], 4), [1, 2])
        self.assertEqual(ringed(ring + [hold(2, 0, 1, 2), hold(1, 3, 1, 2)], 4), [1, 2])
        self.assertEqual(ringed([begin(1, 2), hold(1, 0, 1, 2), hold(1, 1, 1, 2)], 2), [0])

    def test_between_two_rings(self):
        calls = [begin(1, 5), hold(1, 1, 1, 2), hold(2, 0, 1, 2), hold(2, 2, 1, 2), hold(3, 3, 1, 2), hold(4, 4, 1, 2),
                 hold(5, 3, 1, 2)]
        self.assertEqual(ringed(calls, 5), [0, 1, 3, 4])
        self.assertEqual(ringed(calls + [hold(5, 0, 1, 2)], 5), [0, 1, 2, 3, 4])

    def test_a_ring_one_comes_to_by_another_way_first(self):
        calls = [begin(1, 4), hold(1, 1, 1, 2), hold(1, 3, 1, 2), hold(2, 3, 1, 2), hold(4, 2, 1, 2), hold(3, 0, 1, 2)]
        self.assertEqual(ringed(calls, 4), [0, 1, 2, 3])

    def test_cancelled_and_handed_out_the_ring_is_untied(self):
        self.assertEqual(ringed([begin(1, 1), hold(1, 0, 1, 2), cancel(0)], 1), [])
        two = [begin(1, 2), hold(1, 1, 1, 2), hold(2, 0, 1, 2)]
        self.assertEqual(ringed(two, 2), [0, 1])
        # Company 1 gets some of itself by way of the ring.
        self.assertEqual(ringed(two + [hand(0)], 2), [1])
        self.assertEqual(ringed(two + [hand(0), hand(1)], 2), [])
        self.assertEqual(ringed(two + [all_out([1, 0])], 2), [])

    def test_a_ring_that_is_wholly_closed_stays_one(self):
        two = [begin(1, 2), hold(1, 1, 1, 1), hold(2, 0, 1, 1)]
        self.assertEqual(ringed(two, 2), [0, 1])
        self.assertEqual(ringed(two + [all_out([0, 1])], 2), [1])

    def test_sold_and_sold_back(self):
        two = [begin(1, 2), hold(1, 1, 1, 2), hold(2, 0, 1, 2)]
        self.assertEqual(ringed(two + [sell(1, 0, 1, 1, 4)], 2), [0, 1])
        self.assertEqual(ringed(two + [sell(1, 0, 1, 1, 2)], 2), [])
        self.assertEqual(ringed(two + [sell(1, 0, 1, 1, 2), sell(0, 1, 1, 1, 100)], 2), [0, 1])

    def test_there_is_no_such_company(self):
        for n in range(1, 6):
            calls = [begin(4, n), inring(n - 1), inring(n), inring(n + 1), inring(GREATEST)]
            self.assertEqual(ask(calls)[1:], [[0], [-2], [-2], [-2]])
        self.assertEqual(last([begin(3, 1), inring(3)]), [-2])


if __name__ == "__main__":
    unittest.main()
