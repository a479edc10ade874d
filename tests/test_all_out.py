import unittest

from tests.helper import GREATEST, all_out, all_parts, ask, begin, hand, hold, last, part

RING = [begin(1, 2), hold(0, 0, 1, 2), hold(2, 0, 1, 2), hold(0, 1, 2, 3), hold(1, 1, 1, 3)]
CLOSED = [begin(1, 2), hold(2, 0, 1, 1), hold(1, 1, 1, 1)]
CHAIN = [begin(1, 4), hold(0, 0, 1, 2), hold(1, 1, 1, 2), hold(2, 2, 1, 2), hold(3, 3, 1, 2)]


class AllOut(unittest.TestCase):
    def test_one_behind_another_hands_out(self):
        for row in ([0], [1], [0, 1], [1, 0], [0, 0], [1, 0, 1, 0]):
            one_by_one = RING + [hand(i) for i in row]
            self.assertEqual(all_parts(RING + [all_out(row)], 1, 2), all_parts(one_by_one, 1, 2), row)

    def test_in_the_order_of_the_list(self):
        # Company 1 holds company 0 and gets its parts only if that one has handed out ahead of it.
        calls = [begin(1, 3), hold(2, 0, 1, 1), hold(0, 1, 1, 1), hold(1, 2, 1, 2)]
        self.assertEqual(ask(calls + [all_out([0, 1]), part(0, 2), part(2, 2)])[-3:], [[0], [0, 1, 2], [0, 0, 1]])
        self.assertEqual(ask(calls + [all_out([1, 0]), part(0, 2), part(2, 2)])[-3:], [[0], [0, 1, 2], [0, 0, 1]])
        self.assertEqual(ask(calls + [all_out([0]), part(0, 2), part(2, 2)])[-3:], [[1], [0, 0, 1], [0, 1, 2]])
        closed = CLOSED + [hold(1, 1, 1, 2)]
        self.assertEqual(ask(closed + [all_out([0, 1]), part(2, 0), part(2, 1)])[-3:], [[0], [0, 0, 1], [0, 0, 1]])
        self.assertEqual(ask(CLOSED + [all_out([0, 1]), part(2, 0), part(1, 1)])[-3:], [[1], [0, 1, 1], [0, 0, 1]])
        self.assertEqual(ask(CLOSED + [all_out([1, 0]), part(2, 0), part(1, 1)])[-3:], [[1], [0, 0, 1], [0, 1, 1]])

    def test_how_many_companies_hold_some_of_another_one_then(self):
        self.assertEqual([last(CHAIN + [all_out(row)]) for row in ([], [0], [1], [0, 1], [2, 1, 0], [3])],
                         [[3], [2], [2], [1], [0], [3]])

    def test_what_it_holds_of_itself_does_not_count_there(self):
        calls = [begin(1, 3), hold(1, 0, 1, 2), hold(2, 1, 1, 1), hold(3, 0, 1, 4)]
        self.assertEqual(last(calls + [all_out([])]), [1])
        self.assertEqual(last(calls + [all_out([0, 1])]), [1])

    def test_an_empty_list_changes_nothing(self):
        calls = RING + [hold(2, 1, 1, 4)]
        self.assertEqual(last([begin(4, 5), all_out([])]), [0])
        self.assertEqual(last(calls + [all_out([])]), [2])
        self.assertEqual(all_parts(calls + [all_out([])], 1, 2), all_parts(calls, 1, 2))

    def test_those_that_hold_themselves_wholly_do_not_hand_out(self):
        calls = [begin(1, 3), hold(1, 0, 1, 1), hold(1, 1, 1, 2), hold(0, 1, 1, 2), hold(2, 2, 1, 2)]
        told = ask(calls + [all_out([0, 1]), part(1, 0), part(1, 1), part(0, 2), part(1, 2)])
        self.assertEqual(told[5:], [[1], [0, 1, 1], [0, 1, 2], [0, 1, 4], [0, 1, 4]])

    def test_one_comes_to_hold_itself_wholly_on_the_way(self):
        ring = [begin(1, 3), hold(2, 0, 1, 1), hold(3, 1, 1, 1), hold(1, 2, 1, 1)]
        told = ask(ring + [all_out([0, 1, 2]), part(3, 0), part(3, 1), part(3, 2)])
        self.assertEqual(told[4:], [[1], [0, 1, 1], [0, 1, 1], [0, 1, 1]])

    def test_a_company_may_stand_there_several_times(self):
        self.assertEqual(last(RING + [all_out([0] * 12)]), [1])
        self.assertEqual(last(RING + [all_out([0, 1] * 6)]), [0])
        calls = [begin(1, 3), hold(0, 0, 1, 1), hold(1, 1, 1, 1), hold(2, 2, 1, 1)]
        self.assertEqual(last(calls + [all_out([0, 1, 0])]), [0])
        self.assertEqual(last(calls + [all_out([1, 0, 0]), part(0, 2)]), [0, 1, 1])

    def test_how_long_the_list_may_be(self):
        for size, told in ((0, [3]), (1, [2]), (11, [2]), (12, [2]), (13, [-22]), (14, [-22]), (255, [-22])):
            self.assertEqual(last(CHAIN + [all_out([0] * size)]), told, size)

    def test_one_is_no_company(self):
        for n in range(1, 6):
            for i in (n, n + 1, GREATEST):
                for row in ([i], [0, i], [i, 0], [0] * 11 + [i], [i] * 13, [i] * 255):
                    self.assertEqual(last([begin(4, n), all_out(row)]), [-22], (n, row))
            self.assertEqual(last([begin(4, n), all_out([n - 1])]), [0])

    def test_what_is_refused_changes_nothing(self):
        before = all_parts(RING, 1, 2)
        for row in ([0, 1] * 6 + [0], [0, 2], [1, 0, GREATEST], [0] * 255):
            self.assertEqual(last(RING + [all_out(row)]), [-22])
            self.assertEqual(all_parts(RING + [all_out(row)], 1, 2), before, row)

    def test_the_next_call_is_read_behind_the_list(self):
        calls = RING + [all_out([7] * 255), all_out([]), part(0, 0), all_out([1]), part(0, 0)]
        self.assertEqual(ask(calls)[5:], [[-22], [2], [0, 1, 2], [1], [0, 5, 6]])


if __name__ == "__main__":
    unittest.main()
