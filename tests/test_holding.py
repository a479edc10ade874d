import unittest

from tests.helper import all_out, ask, begin, cancel, hand, hold, holding, plain, sell


class HoldingAndPlain(unittest.TestCase):
    def told(self, calls, companies):
        self.assertEqual(ask(calls + [holding(), plain()])[-2:],
                         [[len(companies)] + companies, [1 if companies == [] else 0]], calls)

    def test_none(self):
        for n in range(1, 6):
            self.told([begin(2, n)], [])

    def test_people_do_not_count(self):
        self.told([begin(2, 2), hold(0, 0, 1, 1), hold(1, 1, 1, 2)], [])

    def test_some(self):
        self.told([begin(1, 3), hold(2, 2, 1, 100)], [1])
        self.told([begin(1, 3), hold(1, 2, 1, 2), hold(3, 0, 1, 1)], [0, 2])

    def test_all(self):
        self.told([begin(1, 5)] + [hold(1 + i, (i + 1) % 5, 1, 2) for i in range(5)], [0, 1, 2, 3, 4])

    def test_they_are_rising_however_they_came(self):
        self.told([begin(1, 5), hold(5, 0, 1, 2), hold(3, 1, 1, 2), hold(1, 4, 1, 2)], [0, 2, 4])
        self.told([begin(1, 5), hold(1, 4, 1, 2), hold(5, 0, 1, 2), hold(3, 1, 1, 2)], [0, 2, 4])

    def test_each_company_counts_once(self):
        self.told([begin(1, 4), hold(2, 0, 1, 2), hold(2, 2, 1, 2), hold(2, 3, 1, 2)], [1])

    def test_each_company_counts_by_whichever_other_one_it_holds_some_of(self):
        for n in range(2, 6):
            for i in range(n):
                for j in range(n):
                    self.told([begin(1, n), hold(1 + i, j, 1, 2)], [] if i == j else [i])

    def test_some_of_itself_alone_does_not_count(self):
        self.told([begin(1, 1), hold(1, 0, 1, 2)], [])
        self.told([begin(1, 2), hold(1, 0, 1, 2), hold(2, 1, 1, 1)], [])
        self.told([begin(1, 2), hold(1, 0, 1, 2), hold(2, 1, 1, 2), hold(2, 0, 1, 2)], [1])

    def test_one_that_is_only_held_does_not_count(self):
        self.told([begin(1, 3), hold(1, 1, 1, 2), hold(1, 2, 1, 2)], [0])

    def test_none_of_it_is_not_some(self):
        self.told([begin(1, 2), hold(1, 1, 0, 5)], [])
        self.told([begin(1, 2), hold(1, 1, 1, 5), hold(1, 1, 0, 1)], [])
        self.told([begin(1, 2), hold(1, 1, 1, 5), sell(1, 0, 1, 1, 5)], [])
        self.told([begin(1, 2), hold(1, 1, 1, 5), sell(1, 2, 1, 1, 5)], [])

    def test_behind_cancel_hand_and_all(self):
        ring = [begin(1, 3), hold(0, 0, 1, 2), hold(1, 1, 1, 2), hold(2, 2, 1, 2), hold(3, 0, 1, 2)]
        self.told(ring, [0, 1, 2])
        self.told(ring + [cancel(0)], [0, 1, 2])
        self.told(ring + [hand(0)], [1, 2])
        self.told(ring + [hand(0), hand(1)], [2])
        self.told(ring + [all_out([0, 1, 2])], [])
        self.told(ring + [all_out([2, 0])], [1])

    def test_a_ring_that_is_wholly_closed_goes_on_holding(self):
        closed = [begin(1, 2), hold(2, 0, 1, 1), hold(1, 1, 1, 1), all_out([0, 1])]
        self.assertEqual(ask(closed)[-1], [1])
        self.told(closed, [1])

    def test_as_many_as_all_tells(self):
        for row in ([], [0], [1], [2], [0, 1], [2, 1], [0, 1, 2], [1, 1]):
            calls = [begin(1, 3), hold(2, 0, 1, 2), hold(3, 1, 1, 2), hold(1, 2, 1, 2), all_out(row), holding()]
            told = ask(calls)
            self.assertEqual(told[-2][0], told[-1][0])


if __name__ == "__main__":
    unittest.main()
