import unittest

from tests.helper import GREATEST, all_parts, ask, begin, cancel, hold, last, part


class Cancel(unittest.TestCase):
    def test_all_other_parts_are_divided_by_what_is_left(self):
        calls = [begin(2, 2), hold(0, 0, 1, 4), hold(1, 0, 1, 8), hold(2, 0, 1, 3), hold(3, 0, 1, 12)]
        asked = [part(0, 0), part(1, 0), part(2, 0), part(3, 0)]
        told = ask(calls + [cancel(0)] + asked)
        self.assertEqual(told[5:], [[0, 1, 3], [0, 3, 8], [0, 3, 16], [0, 0, 1], [0, 1, 8]])

    def test_the_parts_of_other_companies_stay(self):
        calls = [begin(1, 3), hold(1, 0, 1, 2), hold(1, 1, 1, 5), hold(2, 1, 1, 3), hold(0, 2, 1, 7), hold(0, 0, 1, 9)]
        before = all_parts(calls, 1, 3)
        behind = all_parts(calls + [cancel(0)], 1, 3)
        changed = {key for key in before if before[key] != behind[key]}
        self.assertEqual(changed, {(0, 0), (1, 0)})

    def test_what_is_strewn_grows_with_the_others(self):
        calls = [begin(1, 1), hold(0, 0, 1, 4), hold(1, 0, 1, 2), cancel(0)]
        self.assertEqual(last(calls + [part(0, 0)]), [0, 1, 2])
        self.assertEqual(last(calls + [hold(1, 0, 51, 100)]), [-33])
        self.assertEqual(last(calls + [hold(1, 0, 1, 2)]), [0, 0, 1])

    def test_it_holds_none_of_itself(self):
        calls = [begin(2, 1), hold(0, 0, 1, 2), hold(1, 0, 1, 4)]
        self.assertEqual(last(calls + [cancel(0)]), [0, 0, 1])
        self.assertEqual(all_parts(calls + [cancel(0)], 2, 1), all_parts(calls, 2, 1))
        self.assertEqual(last([begin(4, 5), cancel(4)]), [0, 0, 1])

    def test_twice_cancelled_is_once_cancelled(self):
        calls = [begin(1, 1), hold(0, 0, 1, 4), hold(1, 0, 1, 2), cancel(0), cancel(0), part(0, 0)]
        self.assertEqual(ask(calls)[3:], [[0, 1, 2], [0, 0, 1], [0, 1, 2]])

    def test_it_holds_itself_wholly_or_almost(self):
        self.assertEqual(last([begin(1, 1), hold(1, 0, 1, 1), cancel(0)]), [-33])
        self.assertEqual(last([begin(1, 1), hold(1, 0, 100, 100), cancel(0)]), [-33])
        calls = [begin(1, 1), hold(1, 0, 99, 100), hold(0, 0, 1, 100), cancel(0), part(0, 0), part(1, 0)]
        self.assertEqual(ask(calls)[3:], [[0, 99, 100], [0, 1, 1], [0, 0, 1]])

    def test_all_that_is_not_its_own_is_strewn(self):
        calls = [begin(1, 1), hold(1, 0, 99, 100), cancel(0), part(0, 0), part(1, 0), hold(0, 0, 1, 1)]
        self.assertEqual(ask(calls)[2:], [[0, 99, 100], [0, 0, 1], [0, 0, 1], [0, 0, 1]])

    def test_another_company_that_is_held_wholly_is_none_of_its_own(self):
        self.assertEqual(last([begin(1, 2), hold(1, 1, 1, 1), cancel(0)]), [0, 0, 1])
        self.assertEqual(last([begin(1, 2), hold(1, 1, 1, 1), cancel(1)]), [0, 0, 1])
        self.assertEqual(last([begin(1, 2), hold(0, 0, 1, 1), cancel(0)]), [0, 0, 1])

    def test_there_is_no_such_company(self):
        for n in range(1, 6):
            for i in (n, n + 1, 100, GREATEST):
                self.assertEqual(last([begin(4, n), cancel(i)]), [-2], (n, i))
            self.assertEqual(last([begin(4, n), cancel(n - 1)]), [0, 0, 1])

    def test_what_is_refused_changes_nothing(self):
        calls = [begin(1, 2), hold(1, 0, 1, 1), hold(0, 1, 1, 2), hold(2, 1, 1, 3)]
        before = all_parts(calls, 1, 2)
        for refused in (cancel(0), cancel(2), cancel(GREATEST)):
            self.assertLess(last(calls + [refused])[0], 0)
            self.assertEqual(all_parts(calls + [refused], 1, 2), before, refused)


if __name__ == "__main__":
    unittest.main()
