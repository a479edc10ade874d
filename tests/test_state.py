import unittest

from tests.helper import GREATEST, all_out, ask, begin, cancel, hand, hold, last, sell, state


class State(unittest.TestCase):
    def test_how_many_people_then_how_many_companies(self):
        for m in range(1, 5):
            for n in range(1, 6):
                self.assertEqual(last([begin(m, n), state()]), [m, n])

    def test_behind_each_begin(self):
        calls = [begin(4, 5), state(), begin(1, 2), state(), begin(3, 1), state(), state()]
        self.assertEqual(ask(calls), [[0], [4, 5], [0], [1, 2], [0], [3, 1], [3, 1]])

    def test_behind_a_begin_that_is_refused(self):
        for m, n in ((0, 1), (1, 0), (5, 5), (4, 6), (GREATEST, 1), (1, GREATEST)):
            self.assertEqual(ask([begin(2, 3), begin(m, n), state()])[1:], [[-22], [2, 3]])
            self.assertEqual(ask([begin(m, n), state()]), [[-22], [-11]])
            self.assertEqual(ask([state(), begin(m, n), begin(2, 3), state()]), [[-11], [-22], [0], [2, 3]])

    def test_no_other_call_changes_it(self):
        calls = [begin(2, 3), hold(0, 0, 1, 2), hold(2, 1, 1, 2), sell(0, 1, 0, 1, 4), cancel(0), hand(0),
                 all_out([0, 1]), hand(7)]
        for count in range(1, len(calls) + 1):
            self.assertEqual(last(calls[:count] + [state()]), [2, 3])


if __name__ == "__main__":
    unittest.main()
