import unittest

from tests.helper import GREATEST, all_parts, ask, begin, hand, hold, last, part


def held(calls, m, n):
    """The parts behind the calls that aren't 0, each as its two numbers."""
    return {key: part.as_integer_ratio() for key, part in all_parts(calls, m, n).items() if part != 0}


class Hand(unittest.TestCase):
    def test_each_holder_gets_their_part_of_it(self):
        calls = [begin(2, 3), hold(0, 0, 1, 2), hold(1, 0, 1, 3), hold(2, 1, 3, 4), hold(2, 2, 1, 5), hand(0)]
        self.assertEqual(last(calls), [2])
        self.assertEqual(held(calls, 2, 3), {(0, 0): (1, 2), (1, 0): (1, 3), (0, 1): (3, 8), (1, 1): (1, 4),
                                             (0, 2): (1, 10), (1, 2): (1, 15)})

    def test_what_they_get_comes_to_what_they_had(self):
        calls = [begin(1, 2), hold(0, 0, 1, 2), hold(0, 1, 1, 4), hold(1, 1, 1, 2), hand(0)]
        self.assertEqual(held(calls, 1, 2), {(0, 0): (1, 2), (0, 1): (1, 2)})

    def test_what_is_strewn_takes_its_share(self):
        calls = [begin(1, 2), hold(0, 0, 1, 4), hold(1, 1, 1, 1), hand(0)]
        self.assertEqual(held(calls, 1, 2), {(0, 0): (1, 4), (0, 1): (1, 4)})
        self.assertEqual(last(calls + [hold(2, 1, 3, 4)]), [0, 0, 1])
        self.assertEqual(last(calls + [hold(2, 1, 76, 100)]), [-33])

    def test_its_own_parts_are_cancelled_first(self):
        calls = [begin(2, 2), hold(0, 0, 1, 4), hold(1, 0, 1, 8), hold(2, 0, 1, 2), hold(2, 1, 1, 3), hand(0)]
        self.assertEqual(last(calls), [1])
        self.assertEqual(held(calls, 2, 2), {(0, 0): (1, 2), (1, 0): (1, 4), (0, 1): (1, 6), (1, 1): (1, 12)})

    def test_its_own_parts_are_cancelled_though_it_holds_nothing_else(self):
        calls = [begin(1, 1), hold(0, 0, 1, 4), hold(1, 0, 1, 2), hand(0)]
        self.assertEqual(last(calls), [0])
        self.assertEqual(held(calls, 1, 1), {(0, 0): (1, 2)})

    def test_a_company_gets_as_a_person_does(self):
        calls = [begin(1, 3), hold(2, 0, 1, 2), hold(1, 2, 1, 3), hand(0)]
        self.assertEqual(last(calls), [1])
        self.assertEqual(held(calls, 1, 3), {(2, 0): (1, 2), (2, 2): (1, 6)})

    def test_two_that_hold_each_other_and_one_gets_of_itself(self):
        calls = [begin(1, 2), hold(0, 0, 1, 2), hold(2, 0, 1, 2), hold(0, 1, 2, 3), hold(1, 1, 1, 3), hand(0)]
        self.assertEqual(last(calls), [1])
        self.assertEqual(held(calls, 1, 2), {(0, 0): (1, 2), (2, 0): (1, 2), (0, 1): (5, 6), (2, 1): (1, 6)})
        self.assertEqual(last(calls + [hand(1)]), [1])
        self.assertEqual(held(calls + [hand(1)], 1, 2), {(0, 0): (1, 1), (0, 1): (1, 1)})

    def test_handed_out_to_itself_by_way_of_a_ring_of_three(self):
        ring = [begin(1, 3), hold(2, 0, 1, 2), hold(3, 1, 1, 2), hold(1, 2, 1, 2)]
        self.assertEqual(held(ring + [hand(0)], 1, 3), {(2, 0): (1, 2), (3, 1): (1, 2), (2, 2): (1, 4)})
        both = ring + [hand(0), hand(1)]
        self.assertEqual(ask(both)[-2:], [[1], [2]])
        self.assertEqual(held(both, 1, 3), {(3, 0): (1, 4), (3, 1): (1, 2), (3, 2): (1, 8)})
        self.assertEqual(last(both + [hand(2)]), [2])
        self.assertEqual(held(both + [hand(2)], 1, 3), {})

    def test_a_company_nobody_holds_strews_what_it_hands_out(self):
        calls = [begin(2, 3), hold(2, 1, 1, 2), hold(2, 2, 1, 1), hold(0, 1, 1, 2), hand(0)]
        self.assertEqual(last(calls), [2])
        self.assertEqual(held(calls, 2, 3), {(0, 1): (1, 2)})

    def test_a_company_only_it_itself_holds_in_part_strews_what_it_hands_out(self):
        calls = [begin(1, 2), hold(1, 0, 1, 2), hold(1, 1, 1, 2), hand(0)]
        self.assertEqual(last(calls), [1])
        self.assertEqual(held(calls, 1, 2), {})

    def test_a_ring_that_is_wholly_closed(self):
        calls = [begin(1, 2), hold(2, 0, 1, 1), hold(1, 1, 1, 1), hand(0)]
        self.assertEqual(last(calls), [1])
        self.assertEqual(held(calls, 1, 2), {(2, 0): (1, 1), (2, 1): (1, 1)})
        self.assertEqual(last(calls + [hand(1)]), [-33])
        self.assertEqual(last(calls + [hand(0)]), [0])

    def test_twice_handed_out(self):
        calls = [begin(1, 2), hold(0, 0, 1, 2), hold(1, 0, 1, 4), hold(1, 1, 1, 2), hand(0), hand(0)]
        self.assertEqual(ask(calls)[-2:], [[1], [0]])
        self.assertEqual(held(calls, 1, 2), held(calls[:-1], 1, 2))

    def test_all_parts_are_strewn(self):
        self.assertEqual(ask([begin(4, 5)] + [hand(i) for i in range(5)])[1:], [[0]] * 5)
        self.assertEqual(held([begin(2, 2), hand(0), hand(1)], 2, 2), {})

    def test_how_many_others_it_held_some_of(self):
        calls = [begin(4, 5), hold(4, 0, 1, 2), hold(4, 1, 1, 100), hold(4, 2, 1, 1), hold(4, 3, 1, 2),
                 hold(4, 4, 1, 2)]
        for count in range(1, 6):
            self.assertEqual(last(calls[:count + 1] + [hand(0)]), [count - 1])
        self.assertEqual(last(calls + [hold(4, 2, 0, 1), hand(0)]), [3])

    def test_it_holds_itself_wholly(self):
        for b in (1, 2, 100):
            self.assertEqual(last([begin(1, 2), hold(1, 1, 1, 2), hold(1, 0, b, b), hand(0)]), [-33])
        self.assertEqual(last([begin(1, 2), hold(1, 1, 1, 1), hold(1, 0, 99, 100), hand(0)]), [1])
        self.assertEqual(last([begin(1, 2), hold(0, 0, 1, 1), hold(1, 1, 1, 1), hand(0)]), [1])

    def test_there_is_no_such_company(self):
        for n in range(1, 6):
            for i in (n, n + 1, 100, GREATEST):
                self.assertEqual(last([begin(4, n), hand(i)]), [-2], (n, i))
            self.assertEqual(last([begin(4, n), hand(n - 1)]), [0])

    def test_what_is_refused_changes_nothing(self):
        calls = [begin(1, 2), hold(1, 0, 1, 1), hold(0, 1, 1, 2), hold(1, 1, 1, 4), hold(2, 1, 1, 5)]
        before = all_parts(calls, 1, 2)
        for refused in (hand(0), hand(2), hand(GREATEST)):
            self.assertLess(last(calls + [refused])[0], 0)
            self.assertEqual(all_parts(calls + [refused], 1, 2), before, refused)


if __name__ == "__main__":
    unittest.main()
