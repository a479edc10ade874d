import unittest
from math import gcd

from tests.helper import GREATEST, all_parts, ask, begin, hold, last, part


class Hold(unittest.TestCase):
    def test_answers_what_the_part_was(self):
        calls = [begin(2, 2), hold(0, 0, 1, 2), hold(0, 0, 2, 6), hold(0, 0, 0, 7), hold(0, 0, 5, 5), hold(0, 0, 0, 1)]
        self.assertEqual(ask(calls)[1:], [[0, 0, 1], [0, 1, 2], [0, 1, 3], [0, 0, 1], [0, 1, 1]])

    def test_only_that_holders_part_of_that_company_changes(self):
        calls = [begin(2, 2), hold(0, 0, 1, 2), hold(1, 0, 1, 3), hold(3, 1, 1, 5), hold(0, 0, 2, 3)]
        parts = all_parts(calls, 2, 2)
        told = {key: held.as_integer_ratio() for key, held in parts.items() if held != 0}
        self.assertEqual(told, {(0, 0): (2, 3), (1, 0): (1, 3), (3, 1): (1, 5)})

    def test_every_holder_may_hold_of_every_company(self):
        for h in range(9):
            for j in range(5):
                told = ask([begin(4, 5), hold(h, j, 3, 4), part(h, j)])
                self.assertEqual(told, [[0], [0, 0, 1], [0, 3, 4]], (h, j))

    def test_there_is_no_such_holder_or_company(self):
        for h, j in ((3, 0), (4, 0), (GREATEST, 0), (0, 1), (0, 2), (0, GREATEST), (3, 1), (GREATEST, GREATEST)):
            self.assertEqual(last([begin(2, 1), hold(h, j, 1, 2)]), [-2], (h, j))
        self.assertEqual(last([begin(2, 1), hold(2, 0, 1, 2)]), [0, 0, 1])

    def test_the_lower_number_that_is_given(self):
        for b, told in ((0, [-22]), (1, [0, 0, 1]), (2, [0, 0, 1]), (99, [0, 0, 1]), (100, [0, 0, 1]),
                        (101, [-22]), (GREATEST - 1, [-22]), (GREATEST, [-22])):
            self.assertEqual(last([begin(1, 1), hold(0, 0, 0, b)]), told, b)
            self.assertEqual(last([begin(1, 1), hold(0, 0, min(b, 1), b)]), told, b)
            self.assertEqual(last([begin(1, 1), hold(0, 0, b, b)]), told, b)

    def test_the_upper_number_that_is_given(self):
        for b in (1, 2, 50, 100):
            for a, told in ((0, [0, 0, 1]), (b - 1, [0, 0, 1]), (b, [0, 0, 1]), (b + 1, [-22]), (GREATEST, [-22])):
                self.assertEqual(last([begin(1, 1), hold(0, 0, a, b)]), told, (a, b))

    def test_all_parts_may_be_one_together_but_not_more(self):
        calls = [begin(2, 2), hold(0, 0, 1, 3), hold(1, 0, 1, 6)]
        self.assertEqual(last(calls + [hold(2, 0, 1, 2)]), [0, 0, 1])
        self.assertEqual(last(calls + [hold(2, 0, 49, 100)]), [0, 0, 1])
        self.assertEqual(last(calls + [hold(2, 0, 51, 100)]), [-33])
        self.assertEqual(last(calls + [hold(2, 0, 1, 1)]), [-33])
        self.assertEqual(last(calls + [hold(2, 0, 1, 2), hold(3, 0, 1, 100)]), [-33])
        self.assertEqual(last(calls + [hold(2, 0, 1, 2), hold(3, 0, 0, 100)]), [0, 0, 1])
        self.assertEqual(last(calls + [hold(2, 1, 1, 1)]), [0, 0, 1])

    def test_what_they_had_does_not_count_for_what_they_have_instead(self):
        calls = [begin(1, 1), hold(0, 0, 2, 3), hold(1, 0, 1, 3)]
        self.assertEqual(last(calls + [hold(0, 0, 2, 3)]), [0, 2, 3])
        self.assertEqual(last(calls + [hold(0, 0, 1, 2)]), [0, 2, 3])
        self.assertEqual(last(calls + [hold(0, 0, 67, 100)]), [-33])

    def test_the_refusal_named_first_is_answered(self):
        calls = [begin(1, 1), hold(0, 0, 1, 1)]
        self.assertEqual(last(calls + [hold(2, 0, 2, 1)]), [-2])
        self.assertEqual(last(calls + [hold(1, 1, 1, 0)]), [-2])
        self.assertEqual(last(calls + [hold(2, 0, 1, 1)]), [-2])
        self.assertEqual(last(calls + [hold(1, 0, 2, 1)]), [-22])
        self.assertEqual(last(calls + [hold(1, 0, 101, 101)]), [-22])
        self.assertEqual(last(calls + [hold(1, 0, 1, 0)]), [-22])
        self.assertEqual(last(calls + [hold(1, 0, 1, 1)]), [-33])

    def test_what_is_refused_changes_nothing(self):
        calls = [begin(2, 2), hold(0, 0, 1, 3), hold(1, 0, 1, 3), hold(2, 1, 1, 7)]
        before = all_parts(calls, 2, 2)
        for refused in (hold(4, 0, 1, 2), hold(0, 2, 1, 2), hold(0, 0, 1, 0), hold(0, 0, 1, 101), hold(0, 0, 3, 2),
                        hold(0, 0, 3, 4), hold(3, 0, 2, 5)):
            self.assertLess(last(calls + [refused])[0], 0)
            self.assertEqual(all_parts(calls + [refused], 2, 2), before, refused)


class Part(unittest.TestCase):
    def test_a_fraction_has_nothing_in_common(self):
        for a, b in ((0, 1), (0, 100), (1, 1), (100, 100), (2, 4), (6, 9), (64, 96), (97, 98), (99, 100), (50, 75)):
            common = gcd(a, b)
            self.assertEqual(last([begin(1, 1), hold(0, 0, a, b), part(0, 0)]), [0, a // common, b // common])

    def test_there_is_no_such_holder_or_company(self):
        for h, j in ((4, 0), (5, 0), (GREATEST, 0), (0, 2), (0, 3), (0, GREATEST), (4, 2), (GREATEST, GREATEST)):
            self.assertEqual(last([begin(2, 2), part(h, j)]), [-2], (h, j))
        self.assertEqual(last([begin(2, 2), part(3, 1)]), [0, 0, 1])

    def test_companies_are_holders_behind_the_people(self):
        calls = [begin(3, 2), hold(3, 1, 1, 4), hold(4, 0, 1, 5), hold(4, 1, 1, 6)]
        asked = [part(2, 0), part(3, 0), part(3, 1), part(4, 0), part(4, 1)]
        self.assertEqual(ask(calls + asked)[4:], [[0, 0, 1], [0, 0, 1], [0, 1, 4], [0, 1, 5], [0, 1, 6]])

    def test_asking_changes_nothing(self):
        told = ask([begin(1, 1), hold(0, 0, 1, 2), part(0, 0), part(0, 1), part(0, 0)])
        self.assertEqual(told[2:], [[0, 1, 2], [-2], [0, 1, 2]])


if __name__ == "__main__":
    unittest.main()
