"""Parts of companies that own one another: held, sold, cancelled and handed out, and what comes of them in the end.

A part is a fraction, told by a tuple of its upper and its lower number, always in lowest terms.
The parts that are held are a list with a row for each holder, first the people, then the companies;
a row has a part for each company. What a call changes it changes in a copy, so that it can still be refused.
"""

BEGIN = 0
HOLD = 1
SELL = 2
CANCEL = 3
HAND = 4
ALL_OUT = 5
PART = 6
REAL = 7
LOST = 8
STREWN = 9
REALSTREWN = 10
INRING = 11
HOLDING = 12
PLAIN = 13
WOULDHAND = 14
STATE = 15

# How many numbers stand behind each call's own number; all_out's one is how long its row is.
SIZES = (2, 4, 5, 1, 1, 1, 2, 2, 1, 1, 1, 1, 0, 0, 2, 0)

NOBODY = -2
BEFORE_BEGIN = -11
NOT_RIGHT = -22
CANNOT_BE = -33
TOO_GREAT = -75

MOST_PEOPLE = 4
MOST_COMPANIES = 5
MOST_PIECES = 100
LONGEST_ROW = 12

NONE = (0, 1)
WHOLE = (1, 1)


def fraction(upper, lower):
    """The fraction in lowest terms; lower is 1 or more."""
    common = upper
    rest = lower
    while rest != 0:
        further = common % rest
        common = rest
        rest = further
    return (upper // common, lower // common)


def plus(x, y):
    return fraction(x[0] * y[1] + y[0] * x[1], x[1] * y[1])


def minus(x, y):
    return fraction(x[0] * y[1] - y[0] * x[1], x[1] * y[1])


def times(x, y):
    return fraction(x[0] * y[0], x[1] * y[1])


def divided(x, y):
    """x by y; y is above 0."""
    return fraction(x[0] * y[1], x[1] * y[0])


def is_less(x, y):
    return x[0] * y[1] < y[0] * x[1]


def can_be_part(a, b):
    return 1 <= b <= MOST_PIECES and a <= b


def copied(held):
    return [list(row) for row in held]


def all_parts(held, j):
    """All parts of company j together."""
    together = NONE
    for row in held:
        together = plus(together, row[j])
    return together


def strewn_of(held, j):
    return minus(WHOLE, all_parts(held, j))


def is_too_great(held):
    for row in held:
        for part in row:
            if part[1] > 10 ** 40:
                return True
    return False


def others_held(held, own, i):
    """Of how many other companies company i, which is the holder own, holds some."""
    return len([j for j in range(len(held[own])) if j != i and held[own][j] != NONE])


def holding_others(held, people):
    """The companies that hold some of another one, rising."""
    return [i for i in range(len(held) - people) if others_held(held, people + i, i) > 0]


def is_in_ring(held, people, i):
    """Whether one comes back to company i by what it holds some of, what that holds some of, and so on."""
    reached = []
    waiting = [i]
    while len(waiting) > 0:
        row = held[people + waiting.pop()]
        for j in range(len(row)):
            if row[j] != NONE and j not in reached:
                reached.append(j)
                waiting.append(j)
    return i in reached


def cancelled(held, own, i):
    """The parts when what company i, the holder own, has of itself is cancelled; that may not be all."""
    left = minus(WHOLE, held[own][i])
    fresh = copied(held)
    for h in range(len(fresh)):
        fresh[h][i] = divided(held[h][i], left)
    fresh[own][i] = NONE
    return fresh


def handed_out(held, own, i):
    """The parts when company i, the holder own, has handed out; it may not hold itself wholly."""
    fresh = cancelled(held, own, i)
    # It holds none of itself by now: so it gets nothing back, and its own holders' parts of it stay.
    for j in range(len(fresh[own])):
        given = fresh[own][j]
        fresh[own][j] = NONE
        for h in range(len(fresh)):
            fresh[h][j] = plus(fresh[h][j], times(fresh[h][i], given))
    return fresh


def all_handed_out(held, people, row):
    """The parts when the companies of the row have handed out, one behind another, where they can."""
    fresh = held
    for i in row:
        if fresh[people + i][i] != WHOLE:
            fresh = handed_out(fresh, people + i, i)
    return fresh


class Rings:
    """One object: how many people and companies there are, and the parts that are held."""

    def __init__(self):
        self.people = 0
        self.companies = 0
        self.held = []

    def has_begun(self):
        return self.people > 0

    def has_holder(self, h):
        return h < self.people + self.companies

    def has_company(self, j):
        return j < self.companies

    def holds_itself_wholly(self, i):
        return self.held[self.people + i][i] == WHOLE

    def begin(self, m, n):
        if not (1 <= m <= MOST_PEOPLE and 1 <= n <= MOST_COMPANIES):
            return [NOT_RIGHT]
        self.people = m
        self.companies = n
        self.held = [[NONE] * n for h in range(m + n)]
        return [0]

    def hold(self, h, j, a, b):
        if not (self.has_holder(h) and self.has_company(j)):
            return [NOBODY]
        if not can_be_part(a, b):
            return [NOT_RIGHT]
        before = self.held[h][j]
        fresh = copied(self.held)
        fresh[h][j] = fraction(a, b)
        if is_less(WHOLE, all_parts(fresh, j)):
            return [CANNOT_BE]
        self.held = fresh
        return [0] + list(before)

    def sell(self, h, k, j, a, b):
        if not (self.has_holder(h) and self.has_holder(k) and self.has_company(j)):
            return [NOBODY]
        if not can_be_part(a, b) or h == k:
            return [NOT_RIGHT]
        sold = fraction(a, b)
        if is_less(self.held[h][j], sold):
            return [CANNOT_BE]
        fresh = copied(self.held)
        fresh[h][j] = minus(self.held[h][j], sold)
        fresh[k][j] = plus(self.held[k][j], sold)
        return self.settle(fresh, [0] + list(fresh[h][j]) + list(fresh[k][j]))

    def cancel(self, i):
        if not self.has_company(i):
            return [NOBODY]
        if self.holds_itself_wholly(i):
            return [CANNOT_BE]
        own = self.people + i
        return self.settle(cancelled(self.held, own, i), [0] + list(self.held[own][i]))

    def hand(self, i):
        if not self.has_company(i):
            return [NOBODY]
        if self.holds_itself_wholly(i):
            return [CANNOT_BE]
        own = self.people + i
        return self.settle(handed_out(self.held, own, i), [others_held(self.held, own, i)])

    def all_out(self, row):
        if len(row) > LONGEST_ROW or not all([self.has_company(i) for i in row]):
            return [NOT_RIGHT]
        fresh = all_handed_out(self.held, self.people, row)
        return self.settle(fresh, [len(holding_others(fresh, self.people))])

    def part(self, h, j):
        if not (self.has_holder(h) and self.has_company(j)):
            return [NOBODY]
        return [0] + list(self.held[h][j])

    def really_owns(self, p, j):
        if not (p < self.people and self.has_company(j)):
            return [NOBODY]
        return [0] + list(self.in_the_end()[p][j])

    def lost(self, j):
        if not self.has_company(j):
            return [NOBODY]
        return [0] + list(all_parts(self.in_the_end()[self.people:], j))

    def strewn(self, j):
        if not self.has_company(j):
            return [NOBODY]
        return [0] + list(strewn_of(self.held, j))

    def realstrewn(self, j):
        if not self.has_company(j):
            return [NOBODY]
        return [0] + list(strewn_of(self.in_the_end(), j))

    def inring(self, i):
        if not self.has_company(i):
            return [NOBODY]
        return [1 if is_in_ring(self.held, self.people, i) else 0]

    def holding(self):
        found = holding_others(self.held, self.people)
        return [len(found)] + found

    def plain(self):
        return [1 if len(holding_others(self.held, self.people)) == 0 else 0]

    def wouldhand(self, i, j):
        if not (self.has_company(i) and self.has_company(j)):
            return [NOBODY]
        if self.holds_itself_wholly(i):
            return [CANNOT_BE]
        told = [self.people + self.companies]
        for row in handed_out(self.held, self.people + i, i):
            told.extend(row[j])
        return told

    def state(self):
        return [self.people, self.companies]

    def in_the_end(self):
        """The parts when all have handed out: by them nothing goes on but what is lost."""
        # Nobody gains or loses by that, and who has handed out gets nothing more. So the companies' parts are
        # those of the ones that hold themselves wholly, lost; a person's part is what they really own;
        # and what is strewn then is strewn in the end.
        return all_handed_out(self.held, self.people, list(range(self.companies)))

    def settle(self, fresh, answer):
        """Keep the fresh parts and give the answer, unless the parts' numbers are too great."""
        if is_too_great(fresh):
            return [TOO_GREAT]
        self.held = fresh
        return answer


def end_of_call(calls, start):
    """Where the call that begins at start has ended."""
    number = calls[start]
    end = start + 1 + SIZES[number]
    if number == ALL_OUT:
        return end + calls[start + 1]
    return end


def answer_change(rings, number, given):
    """What rings answers to a call that may change parts."""
    if number == HOLD:
        return rings.hold(given[0], given[1], given[2], given[3])
    if number == SELL:
        return rings.sell(given[0], given[1], given[2], given[3], given[4])
    if number == CANCEL:
        return rings.cancel(given[0])
    if number == HAND:
        return rings.hand(given[0])
    return rings.all_out(given[1:])


def answer_question(rings, number, given):
    """What rings answers to a call that changes nothing."""
    if number == PART:
        return rings.part(given[0], given[1])
    if number == REAL:
        return rings.really_owns(given[0], given[1])
    if number == LOST:
        return rings.lost(given[0])
    if number == STREWN:
        return rings.strewn(given[0])
    if number == REALSTREWN:
        return rings.realstrewn(given[0])
    if number == INRING:
        return rings.inring(given[0])
    if number == HOLDING:
        return rings.holding()
    if number == PLAIN:
        return rings.plain()
    if number == WOULDHAND:
        return rings.wouldhand(given[0], given[1])
    return rings.state()


def answer_call(rings, number, given):
    """What rings answers to the call of that number, with the numbers given behind it."""
    if number == BEGIN:
        return rings.begin(given[0], given[1])
    if not rings.has_begun():
        return [BEFORE_BEGIN]
    if number <= ALL_OUT:
        return answer_change(rings, number, given)
    return answer_question(rings, number, given)


def answers(calls):
    """The answers to the calls, each with how many numbers it has before it."""
    rings = Rings()
    told = []
    start = 0
    while start < len(calls):
        end = end_of_call(calls, start)
        answer = answer_call(rings, calls[start], calls[start + 1:end])
        told.append(len(answer))
        told.extend(answer)
        start = end
    return told
