import unittest

from tests.helper import GREATEST, all_out, ask, begin, cancel, hand, hold, last, of_each, part, sell, strewn


def left(calls, n):
    """What is strewn of each company behind the calls, each as its two numbers."""
    return [told.as_integer_ratio() for told in of_each(strewn, calls, n)]


class Strewn(unittest.TestCase):
    def test_what_is_left(self):
        calls = [begin(2, 3), hold(0, 0, 1, 2), hold(1, 0, 1, 3), hold(2, 1, 3, 4), hold(3, 2, 2, 4), hold(0, 2, 1, 2)]
        self.assertEqual(left(calls, 3), [(1, 6), (1, 4), (0, 1)])

    def test_all_parts_strewn(self):
        for n in range(1, 6):
            self.assertEqual(left([begin(4, n)], n), [(1, 1)] * n)

    def test_a_company_nobody_holds(self):
        self.assertEqual(left([begin(1, 2), hold(1, 1, 1, 2)], 2), [(1, 1), (1, 2)])
        self.assertEqual(left([begin(1, 1), hold(0, 0, 1, 2), hold(0, 0, 0, 7)], 1), [(1, 1)])

    def test_a_company_that_holds_itself(self):
        self.assertEqual(left([begin(1, 1), hold(1, 0, 1, 3)], 1), [(2, 3)])
        self.assertEqual(left([begin(1, 1), hold(1, 0, 1, 1)], 1), [(0, 1)])

    def test_it_is_straight_and_not_in_the_end(self):
        two = [begin(1, 2), hold(0, 0, 1, 2), hold(2, 0, 1, 2), hold(1, 1, 1, 2)]
        self.assertEqual(left(two, 2), [(0, 1), (1, 2)])

    def test_a_ring_that_is_wholly_closed(self):
        calls = [begin(1, 3), hold(2, 0, 1, 1), hold(1, 1, 1, 1), hold(1, 2, 1, 4)]
        self.assertEqual(left(calls, 3), [(0, 1), (0, 1), (3, 4)])

    def test_sold_and_sold_back_it_stays(self):
        calls = [begin(2, 1), hold(0, 0, 3, 5)]
        for sold in ([sell(0, 1, 0, 1, 3)], [sell(0, 2, 0, 1, 3)], [sell(0, 1, 0, 1, 3), sell(1, 0, 0, 1, 3)]):
            self.assertEqual(left(calls + sold, 1), [(2, 5)])

    def test_what_is_strewn_is_divided_by_what_is_cancelled(self):
        calls = [begin(1, 1), hold(0, 0, 1, 4), hold(1, 0, 1, 2), cancel(0)]
        self.assertEqual(left(calls, 1), [(1, 2)])

    def test_what_is_strewn_takes_its_share_of_what_is_handed_out(self):
        calls = [begin(1, 2), hold(0, 0, 1, 4), hold(1, 1, 2, 3), hold(0, 1, 1, 6)]
        self.assertEqual(left(calls, 2), [(3, 4), (1, 6)])
        for call in (hand(0), all_out([0])):
            self.assertEqual(left(calls + [call], 2), [(3, 4), (2, 3)])

    def test_a_company_nobody_holds_strews_what_it_hands_out(self):
        calls = [begin(1, 2), hold(1, 1, 2, 3), hold(0, 1, 1, 3), hand(0)]
        self.assertEqual(left(calls, 2), [(1, 1), (2, 3)])

    def test_it_is_what_can_still_be_held(self):
        calls = [begin(2, 1), hold(0, 0, 3, 7), hold(1, 0, 2, 5)]
        self.assertEqual(last(calls + [strewn(0)]), [0, 6, 35])
        self.assertEqual(last(calls + [hold(2, 0, 17, 100)]), [0, 0, 1])
        self.assertEqual(last(calls + [hold(2, 0, 18, 100)]), [-33])

    def test_there_is_no_such_company(self):
        for n in range(1, 6):
            calls = [begin(4, n), strewn(n - 1), strewn(n), strewn(n + 1), strewn(GREATEST)]
            self.assertEqual(ask(calls)[1:], [[0, 1, 1], [-2], [-2], [-2]])

    def test_asking_changes_nothing(self):
        calls = [begin(1, 1), hold(0, 0, 1, 3), strewn(0), strewn(0), part(0, 0), strewn(1), strewn(0)]
        self.assertEqual(ask(calls)[2:], [[0, 2, 3], [0, 2, 3], [0, 1, 3], [-2], [0, 2, 3]])


if __name__ == "__main__":
    unittest.main()
