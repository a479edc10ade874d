import unittest

from tests.helper import (all_out, all_parts, ask, begin, cancel, hand, hold, last, lost, part, real, realstrewn, sell,
                          strewn, wouldhand)

LIMIT = 10 ** 40
# The greatest powers up to 100 of all primes up to 100; all of them together are more than the limit.
POWERS = [64, 81, 25, 49, 13, 17, 19, 23, 29, 31, 37, 41, 43, 47, 53, 59, 61, 67, 71, 73, 79, 83, 89, 97, 11]


def climb(m, who, ring, lowers):
    """Calls behind which holder who has a part of the last company whose lower number is all lowers multiplied.

    who holds 1 by the first of company 0; then each company holds 1 by the next of the one behind it, along
    the ring, and hands out. The calls, and the last company.
    """
    calls = [hold(who, 0, 1, lowers[0])]
    at = 0
    for start in range(1, len(lowers), ring - 1):
        row = []
        for lower in lowers[start:start + ring - 1]:
            calls.append(hold(m + at, (at + 1) % ring, 1, lower))
            row.append(at)
            at = (at + 1) % ring
        calls.append(all_out(row))
    return calls, at


# Two people and five companies; person 0's part of company AT has a lower number that is just the limit.
UP, AT = climb(2, 0, 5, [100] * 20)
UP = [begin(2, 5)] + UP
NEXT = (AT + 1) % 5


class TooGreat(unittest.TestCase):
    def refused(self, calls, call):
        self.assertEqual(last(calls + [call]), [-75])
        self.assertEqual(all_parts(calls + [call], 2, 5), all_parts(calls, 2, 5))

    def test_just_the_limit_is_let(self):
        self.assertTrue(all(answer[0] >= 0 for answer in ask(UP)))
        self.assertEqual(last(UP + [part(0, AT)])[2], LIMIT)
        self.assertEqual(last(UP + [hand(AT)]), [0])
        self.assertEqual(last(UP + [cancel(AT)]), [0, 0, 1])
        self.assertEqual(last(UP + [all_out([0, 1, 2, 3, 4])]), [0])
        self.assertEqual(last(UP + [sell(1, 0, AT, 0, 1)])[4], LIMIT)

    def test_just_above_the_limit_is_not(self):
        # 4 times 41 times 61 is 10004.
        calls, at = climb(2, 0, 5, [100] * 18 + [4, 41, 61])
        calls = [begin(2, 5)] + calls
        self.assertTrue(all(answer[0] >= 0 for answer in ask(calls[:-1])))
        self.refused(calls[:-1], calls[-1])
        self.assertEqual(calls[-1][0], 5)
        # With 4 times 41 times 60, which is 9840, it's let.
        calls, at = climb(2, 0, 5, [100] * 18 + [4, 41, 60])
        self.assertEqual(last([begin(2, 5)] + calls), [0])

    def test_hand(self):
        for lower in (2, 3, 100):
            self.refused(UP + [hold(2 + AT, NEXT, 1, lower)], hand(AT))
        self.assertEqual(last(UP + [hold(0, NEXT, 0, 1), hold(2 + AT, NEXT, 1, 1), hand(AT)]), [1])

    def test_hand_where_what_is_cancelled_grows(self):
        self.refused(UP + [hold(2 + AT, AT, 1, 3)], hand(AT))

    def test_cancel(self):
        self.refused(UP + [hold(2 + AT, AT, 1, 3)], cancel(AT))
        self.assertEqual(last(UP + [hold(2 + AT, AT, 1, 2), cancel(AT)]), [0, 1, 2])

    def test_all(self):
        self.refused(UP + [hold(2 + AT, NEXT, 1, 2)], all_out([AT]))
        self.refused(UP + [hold(2 + AT, NEXT, 1, 2)], all_out([NEXT, AT, NEXT]))
        self.assertEqual(last(UP + [hold(2 + AT, NEXT, 1, 2), all_out([NEXT])]), [1])

    def test_sell_where_the_buyers_part_grows(self):
        calls = UP + [hold(1, AT, 1, 2)]
        self.refused(calls, sell(1, 0, AT, 1, 3))
        told = last(calls + [sell(1, 0, AT, 1, 4)])
        self.assertEqual(told[:3] + told[4:], [0, 1, 4, LIMIT])

    def test_sell_where_the_sellers_part_grows(self):
        calls = UP + [hold(1, AT, 1, 2), sell(1, 0, AT, 1, 4)]
        self.refused(calls, sell(0, 1, AT, 1, 7))
        self.assertEqual(last(calls + [sell(0, 1, AT, 1, 5)])[0], 0)

    def test_sell_step_by_step(self):
        calls = [begin(2, 5), hold(0, 0, 1, 1)] + [sell(0, 1, 0, 1, power) for power in POWERS]
        told = ask(calls)
        self.assertEqual([answer[0] for answer in told], [0] * (len(calls) - 1) + [-75])
        self.assertEqual(told[-2][2], 64 * 81 * 25 * 49 * 13 * 17 * 19 * 23 * 29 * 31 * 37 * 41 * 43 * 47 * 53 * 59 * 61
                         * 67 * 71 * 73 * 79 * 83 * 89 * 97)
        self.refused(calls[:-1], calls[-1])
        self.assertEqual(last(calls + [sell(0, 1, 0, 1, 97)])[0], 0)

    def test_it_is_the_last_refusal_of_sell(self):
        calls = UP + [hold(1, AT, 1, 4)]
        self.assertEqual(last(calls + [sell(1, 0, AT, 1, 7)]), [-75])
        self.assertEqual(last(calls + [sell(1, 0, AT, 1, 3)]), [-33])
        self.assertEqual(last(calls + [sell(1, 0, AT, 1, 107)]), [-22])
        self.assertEqual(last(calls + [sell(1, 1, AT, 1, 7)]), [-22])
        self.assertEqual(last(calls + [sell(1, 0, AT, 8, 7)]), [-22])
        self.assertEqual(last(calls + [sell(1, 7, AT, 1, 7)]), [-2])

    def test_it_is_the_last_refusal_of_cancel_and_hand(self):
        calls = UP + [hold(2 + AT, AT, 1, 3)]
        for call in (cancel, hand):
            self.assertEqual(last(calls + [call(AT)]), [-75])
            self.assertEqual(last(calls + [call(5)]), [-2])
        whole = UP + [hold(0, AT, 0, 1), hold(2 + AT, AT, 1, 1)]
        for call in (cancel, hand):
            self.assertEqual(last(whole + [call(AT)]), [-33])

    def test_it_is_the_last_refusal_of_all(self):
        calls = UP + [hold(2 + AT, NEXT, 1, 2)]
        self.assertEqual(last(calls + [all_out([AT] * 12)]), [-75])
        self.assertEqual(last(calls + [all_out([AT] * 13)]), [-22])
        self.assertEqual(last(calls + [all_out([AT, 5])]), [-22])

    def test_it_is_asked_at_the_end_alone(self):
        # Nobody holds company 4: what it gets on the way, too great as it is, is strewn when it hands out.
        calls, at = climb(2, 6, 4, [100] * 20)
        calls = [begin(2, 5)] + calls + [hold(2 + at, (at + 1) % 4, 1, 2)]
        self.refused(calls, all_out([at]))
        self.refused(calls, hand(at))
        self.assertEqual(last(calls + [all_out([at, 4])]), [0])
        self.assertEqual(set(all_parts(calls + [all_out([at, 4])], 2, 5).values()), {0})

    def test_what_is_on_the_way_may_become_less(self):
        # On the way the lower number grows by 4, above the limit; person 1's 2 by 3 take half of that back.
        calls, at = climb(2, 6, 4, [100] * 19 + [40])
        behind = (at + 1) % 4
        calls = [begin(2, 5)] + calls + [hold(6, behind, 0, 1), hold(2 + at, behind, 3, 4), hold(1, 4, 2, 3)]
        self.refused(calls, all_out([at]))
        self.assertEqual(last(calls + [all_out([at, 4])]), [0])
        self.assertEqual(last(calls + [all_out([at, 4]), part(1, behind)])[2], 8 * 10 ** 39)

    def test_hold_is_not_asked(self):
        calls = UP + [hold(1, AT, 1, 3)]
        self.assertEqual(last(calls), [0, 0, 1])

    def test_what_is_strewn_is_no_part(self):
        calls = UP + [hold(1, AT, 1, 3)]
        for call in (sell(1, 0, AT, 0, 1), cancel(NEXT), hand(NEXT), all_out([])):
            self.assertGreaterEqual(last(calls + [call])[0], 0)

    def test_what_is_really_owned_may_have_greater_numbers(self):
        told = last(UP + [hold(2 + AT, NEXT, 1, 3), hold(0, NEXT, 0, 1), real(0, NEXT)])
        self.assertEqual((told[0], told[2]), (0, 3 * LIMIT))

    def test_what_is_strewn_may_have_greater_numbers(self):
        told = last(UP + [hold(1, AT, 1, 3), strewn(AT)])
        self.assertEqual((told[0], told[2]), (0, 3 * LIMIT))
        told = last(UP + [hold(2 + AT, NEXT, 1, 3), hold(0, NEXT, 0, 1), realstrewn(NEXT)])
        self.assertEqual((told[0], told[2]), (0, 3 * LIMIT))

    def test_what_is_lost_may_have_greater_numbers(self):
        # Company 4 holds itself wholly, and of company at a part whose lower number is just the limit.
        calls, at = climb(2, 6, 4, [100] * 20)
        behind = (at + 1) % 4
        calls = [begin(2, 5)] + calls + [hold(6, 4, 1, 1), hold(6, behind, 0, 1), hold(2 + at, behind, 1, 3)]
        told = last(calls + [lost(behind)])
        self.assertEqual((told[0], told[2]), (0, 3 * LIMIT))
        self.refused(calls, hand(at))

    def test_what_would_be_handed_out_may_have_greater_numbers(self):
        calls = UP + [hold(2 + AT, NEXT, 1, 3), hold(0, NEXT, 0, 1)]
        self.refused(calls, hand(AT))
        told = last(calls + [wouldhand(AT, NEXT)])
        self.assertEqual((told[0], told[2]), (7, 3 * LIMIT))


if __name__ == "__main__":
    unittest.main()
