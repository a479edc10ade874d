import unittest

from tests.helper import (GREATEST, all_out, all_parts, all_real, ask, begin, cancel, hand, hold, holding, inring, last,
                          lost, of_each, part, plain, real, realstrewn, sell, state, strewn, wouldhand)


def every_other_call(x):
    return [hold(x, x, x, x), sell(x, x, x, x, x), cancel(x), hand(x), all_out([x]), part(x, x), real(x, x), lost(x),
            strewn(x), realstrewn(x), inring(x), holding(), plain(), wouldhand(x, x), state()]


class BeforeBegin(unittest.TestCase):
    def test_every_other_call_answers_minus_11(self):
        calls = [hold(0, 0, 1, 2), sell(0, 1, 0, 1, 2), cancel(0), hand(0), all_out([0]), all_out([]),
                 part(0, 0), real(0, 0), lost(0), strewn(0), realstrewn(0), inring(0), holding(), plain(),
                 wouldhand(0, 0), state()]
        self.assertEqual(ask(calls), [[-11]] * len(calls))
        for call in calls:
            self.assertEqual(ask([call]), [[-11]])

    def test_minus_11_goes_before_every_other_refusal(self):
        for x in (0, 1, 4, 5, 9, 100, 101, GREATEST):
            self.assertEqual(ask(every_other_call(x)), [[-11]] * 15)
        self.assertEqual(ask([all_out([0] * 13), all_out([GREATEST] * 255)]), [[-11], [-11]])

    def test_a_refused_begin_is_none(self):
        for m, n in ((0, 1), (1, 0), (5, 5), (4, 6)):
            self.assertEqual(ask([begin(m, n)] + every_other_call(0)), [[-22]] + [[-11]] * 15)

    def test_a_begin_behind_refusals_is_one(self):
        calls = [part(0, 0), begin(0, 0), part(0, 0), begin(1, 1), part(0, 0)]
        self.assertEqual(ask(calls), [[-11], [-22], [-11], [0], [0, 0, 1]])


class Begin(unittest.TestCase):
    def test_how_many_people_and_companies_are_let(self):
        for m in (0, 1, 2, 3, 4, 5, 6, 100, GREATEST):
            for n in (0, 1, 2, 3, 4, 5, 6, 100, GREATEST):
                let = 1 <= m <= 4 and 1 <= n <= 5
                self.assertEqual(ask([begin(m, n)]), [[0] if let else [-22]], (m, n))

    def test_nobody_holds_anything(self):
        for m in range(1, 5):
            for n in range(1, 6):
                self.assertEqual(set(all_parts([begin(m, n)], m, n).values()), {0})
                self.assertEqual(set(all_real([begin(m, n)], m, n).values()), {0})
                self.assertEqual(of_each(strewn, [begin(m, n)], n), [1] * n)

    def test_there_are_so_many_holders_companies_and_people(self):
        for m in range(1, 5):
            for n in range(1, 6):
                calls = [begin(m, n), part(m + n - 1, n - 1), part(m + n, n - 1), part(m + n - 1, n),
                         real(m - 1, n - 1), real(m, n - 1), real(m - 1, n)]
                self.assertEqual(ask(calls)[1:], [[0, 0, 1], [-2], [-2], [0, 0, 1], [-2], [-2]], (m, n))

    def test_a_second_begin_begins_anew(self):
        calls = [begin(1, 1), hold(0, 0, 1, 2), begin(2, 2), part(0, 0), part(3, 1), part(4, 1), real(0, 0), strewn(0)]
        self.assertEqual(ask(calls)[2:], [[0], [0, 0, 1], [0, 0, 1], [-2], [0, 0, 1], [0, 1, 1]])
        calls = [begin(1, 2), hold(1, 0, 1, 1), hold(1, 1, 1, 2), begin(1, 2), inring(0), lost(0), plain()]
        self.assertEqual(ask(calls)[3:], [[0], [0], [0, 0, 1], [1]])
        self.assertEqual(last([begin(4, 5), begin(1, 1), part(1, 1)]), [-2])

    def test_a_refused_second_begin_changes_nothing(self):
        for m, n in ((0, 1), (1, 0), (5, 5), (4, 6), (GREATEST, GREATEST)):
            calls = [begin(2, 2), hold(0, 1, 1, 2), begin(m, n), part(0, 1), part(3, 1), part(4, 1), part(0, 2)]
            self.assertEqual(ask(calls)[2:], [[-22], [0, 1, 2], [0, 0, 1], [-2], [-2]], (m, n))


if __name__ == "__main__":
    unittest.main()
