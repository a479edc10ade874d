import unittest

from tests.helper import GREATEST, all_parts, ask, begin, hold, last, part, sell


class Sell(unittest.TestCase):
    def test_so_much_goes_from_one_to_the_other(self):
        calls = [begin(2, 2), hold(0, 0, 2, 3), hold(1, 0, 1, 6), sell(0, 1, 0, 1, 4), part(0, 0), part(1, 0)]
        self.assertEqual(ask(calls)[3:], [[0, 5, 12, 5, 12], [0, 5, 12], [0, 5, 12]])

    def test_only_these_two_parts_change(self):
        calls = [begin(2, 2), hold(0, 0, 1, 2), hold(0, 1, 1, 2), hold(1, 1, 1, 3), hold(3, 0, 1, 5)]
        before = all_parts(calls, 2, 2)
        behind = all_parts(calls + [sell(0, 3, 0, 1, 10)], 2, 2)
        changed = {key for key in before if before[key] != behind[key]}
        self.assertEqual(changed, {(0, 0), (3, 0)})

    def test_people_and_companies_sell_and_buy(self):
        for h in range(4):
            for k in range(4):
                if h != k:
                    told = last([begin(2, 2), hold(h, 1, 3, 4), sell(h, k, 1, 1, 2)])
                    self.assertEqual(told, [0, 1, 4, 1, 2], (h, k))

    def test_all_is_sold_and_sold_back(self):
        calls = [begin(2, 1), hold(0, 0, 5, 7), hold(1, 0, 1, 7)]
        sold = calls + [sell(0, 1, 0, 5, 7)]
        self.assertEqual(last(sold), [0, 0, 1, 6, 7])
        self.assertEqual(last(sold + [sell(1, 0, 0, 5, 7)]), [0, 1, 7, 5, 7])
        self.assertEqual(all_parts(sold + [sell(1, 0, 0, 5, 7)], 2, 1), all_parts(calls, 2, 1))
        self.assertEqual(last([begin(1, 1), hold(0, 0, 1, 1), sell(0, 1, 0, 100, 100)]), [0, 0, 1, 1, 1])

    def test_nothing_is_sold(self):
        self.assertEqual(last([begin(2, 1), sell(0, 1, 0, 0, 1)]), [0, 0, 1, 0, 1])
        self.assertEqual(last([begin(2, 1), hold(0, 0, 1, 3), sell(0, 1, 0, 0, 100)]), [0, 1, 3, 0, 1])
        self.assertEqual(last([begin(2, 1), hold(0, 0, 1, 3), sell(1, 0, 0, 0, 100)]), [0, 0, 1, 1, 3])

    def test_more_than_there_is(self):
        calls = [begin(2, 1), hold(0, 0, 1, 3), hold(1, 0, 1, 2)]
        self.assertEqual(last(calls + [sell(0, 1, 0, 33, 100)]), [0, 1, 300, 83, 100])
        self.assertEqual(last(calls + [sell(0, 1, 0, 33, 99)]), [0, 0, 1, 5, 6])
        self.assertEqual(last(calls + [sell(0, 1, 0, 34, 100)]), [-33])
        self.assertEqual(last(calls + [sell(0, 1, 0, 1, 1)]), [-33])
        self.assertEqual(last(calls + [sell(2, 1, 0, 1, 100)]), [-33])

    def test_there_is_no_such_holder_or_company(self):
        calls = [begin(2, 1), hold(0, 0, 1, 1)]
        for h, k, j in ((3, 0, 0), (GREATEST, 0, 0), (0, 3, 0), (0, 4, 0), (0, GREATEST, 0), (0, 1, 1), (0, 1, 2),
                        (0, 1, GREATEST), (3, 3, 0), (GREATEST, GREATEST, GREATEST)):
            self.assertEqual(last(calls + [sell(h, k, j, 1, 2)]), [-2], (h, k, j))
        self.assertEqual(last(calls + [sell(0, 2, 0, 1, 2)]), [0, 1, 2, 1, 2])

    def test_what_is_given_is_not_right(self):
        calls = [begin(2, 1), hold(0, 0, 1, 1)]
        for b, let in ((0, False), (1, True), (99, True), (100, True), (101, False), (GREATEST, False)):
            self.assertEqual(last(calls + [sell(0, 1, 0, 0, b)]), [0, 1, 1, 0, 1] if let else [-22], b)
            self.assertEqual(last(calls + [sell(0, 1, 0, b, b)]), [0, 0, 1, 1, 1] if let else [-22], b)
        for a, b in ((1, 0), (2, 1), (101, 100), (GREATEST, 100), (GREATEST, GREATEST)):
            self.assertEqual(last(calls + [sell(0, 1, 0, a, b)]), [-22], (a, b))
        self.assertEqual(last(calls + [sell(0, 1, 0, 99, 100)]), [0, 1, 100, 99, 100])
        for h in range(3):
            self.assertEqual(last(calls + [sell(h, h, 0, 0, 1)]), [-22], h)

    def test_the_refusal_named_first_is_answered(self):
        calls = [begin(2, 1), hold(0, 0, 1, 2)]
        self.assertEqual(last(calls + [sell(3, 3, 0, 1, 2)]), [-2])
        self.assertEqual(last(calls + [sell(0, 1, 1, 2, 1)]), [-2])
        self.assertEqual(last(calls + [sell(0, 3, 0, 1, 0)]), [-2])
        self.assertEqual(last(calls + [sell(0, 3, 0, 1, 1)]), [-2])
        self.assertEqual(last(calls + [sell(0, 0, 0, 1, 1)]), [-22])
        self.assertEqual(last(calls + [sell(1, 0, 0, 2, 1)]), [-22])
        self.assertEqual(last(calls + [sell(1, 0, 0, 101, 101)]), [-22])
        self.assertEqual(last(calls + [sell(1, 0, 0, 1, 100)]), [-33])

    def test_what_is_refused_changes_nothing(self):
        calls = [begin(2, 2), hold(0, 0, 1, 2), hold(1, 0, 1, 4), hold(2, 1, 1, 7)]
        before = all_parts(calls, 2, 2)
        for refused in (sell(4, 0, 0, 1, 2), sell(0, 4, 0, 1, 2), sell(0, 1, 2, 1, 2), sell(0, 1, 0, 1, 0),
                        sell(0, 1, 0, 1, 101), sell(0, 1, 0, 3, 2), sell(0, 0, 0, 1, 2), sell(0, 1, 0, 51, 100)):
            self.assertLess(last(calls + [refused])[0], 0)
            self.assertEqual(all_parts(calls + [refused], 2, 2), before, refused)


if __name__ == "__main__":
    unittest.main()
