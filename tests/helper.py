"""What the tests share: the calls as numbers, the answers as lists, and a model to hold the program against."""

from fractions import Fraction

from untiedrings.parts import answers

GREATEST = 4294967295


def begin(m, n):
    return [0, m, n]


def hold(h, j, a, b):
    return [1, h, j, a, b]


def sell(h, k, j, a, b):
    return [2, h, k, j, a, b]


def cancel(i):
    return [3, i]


def hand(i):
    return [4, i]


def all_out(row):
    return [5, len(row)] + list(row)


def part(h, j):
    return [6, h, j]


def real(p, j):
    return [7, p, j]


def lost(j):
    return [8, j]


def strewn(j):
    return [9, j]


def realstrewn(j):
    return [10, j]


def inring(i):
    return [11, i]


def holding():
    return [12]


def plain():
    return [13]


def wouldhand(i, j):
    return [14, i, j]


def state():
    return [15]


# Two people and three companies, each of which holds some of every one.
RING = [begin(2, 3), hold(0, 0, 1, 6), hold(3, 0, 1, 2), hold(4, 0, 1, 3), hold(1, 1, 1, 4), hold(2, 1, 1, 4),
        hold(3, 1, 1, 4), hold(4, 1, 1, 4), hold(0, 2, 2, 5), hold(2, 2, 1, 5), hold(3, 2, 2, 5)]


def holdings(random, m, n, let):
    """A begin and holds, at random; of each company the parts are let by let or less of it together."""
    calls = [begin(m, n)]
    for j in range(n):
        left = let
        for h in random.sample(range(m + n), random.randint(0, min(m + n, 7))):
            a = random.randint(0, left)
            left -= a
            calls.append(hold(h, j, a, let))
    return calls


def ask(calls):
    """The answer to each call, all of them on one new object."""
    if len(calls) > 40:
        raise ValueError("a line has at most 40 calls")
    told = answers([number for call in calls for number in call])
    split = []
    start = 0
    while start < len(told):
        end = start + 1 + told[start]
        split.append(told[start + 1:end])
        start = end
    if start != len(told) or len(split) != len(calls):
        raise ValueError("the answers don't stand as they should: " + repr(told))
    return split


def last(calls):
    """The answer to the last of the calls."""
    return ask(calls)[-1]


def ask_behind(calls, questions):
    """The answers to questions, however many, that change nothing, each asked behind the calls."""
    room = 40 - len(calls)
    told = []
    for start in range(0, len(questions), room):
        told += ask(calls + questions[start:start + room])[len(calls):]
    return told


def asked_fractions(calls, questions):
    told = ask_behind(calls, [question for question in questions.values()])
    if any(len(answer) != 3 or answer[0] != 0 for answer in told):
        raise ValueError("a fraction was refused")
    return {key: Fraction(answer[1], answer[2]) for key, answer in zip(questions, told)}


def all_parts(calls, m, n):
    """What each holder has of each company behind the calls."""
    return asked_fractions(calls, {(h, j): part(h, j) for h in range(m + n) for j in range(n)})


def all_real(calls, m, n):
    """What each person really owns of each company behind the calls."""
    return asked_fractions(calls, {(p, j): real(p, j) for p in range(m) for j in range(n)})


def of_each(call, calls, n):
    """What call, one of strewn, realstrewn and lost, tells of each company behind the calls."""
    told = asked_fractions(calls, {j: call(j) for j in range(n)})
    return [told[j] for j in range(n)]


def all_ends(calls, m, n):
    """For each company: what each person really owns, what is strewn in the end, what is lost, as owned tells it."""
    told = all_real(calls, m, n)
    ends = [[told[p, j] for j in range(n)] for p in range(m)]
    return ends + [of_each(realstrewn, calls, n), of_each(lost, calls, n)]


def solved(rows):
    """The x of a system of as many equations as unknowns, each row its factors and then its right side."""
    rows = [list(row) for row in rows]
    for k in range(len(rows)):
        pivot = next(r for r in range(k, len(rows)) if rows[r][k] != 0)
        rows[k], rows[pivot] = rows[pivot], rows[k]
        rows[k] = [x / rows[k][k] for x in rows[k]]
        for r in range(len(rows)):
            if r != k:
                rows[r] = [x - rows[r][k] * y for x, y in zip(rows[r], rows[k])]
    return [row[-1] for row in rows]


def coming(straight, parts, m, n):
    """Of each company what comes in the end to where straight[j] of company j goes at once."""
    reaching = {j for j in range(n) if straight[j] > 0}
    for step in range(n):
        reaching |= {j for j in range(n) if any(parts[m + k, j] > 0 for k in reaching)}
    # The others can't come there at all; without them the system has one solution.
    known = sorted(reaching)
    rows = [[(j == k) - parts[m + k, j] for k in known] + [straight[j]] for j in known]
    told = dict(zip(known, solved(rows)))
    return [told.get(j, Fraction(0)) for j in range(n)]


def owned(parts, m, n):
    """For each company: what each person really owns, what is strewn in the end, what is lost."""
    ends = [coming([parts[p, j] for j in range(n)], parts, m, n) for p in range(m)]
    strewn = [1 - sum(parts[h, j] for h in range(m + n)) for j in range(n)]
    ends.append(coming(strewn, parts, m, n))
    ends.append([1 - sum(end[j] for end in ends) for j in range(n)])
    return ends


class Model:
    """The document's words in fractions, with real owning solved as equations instead of handed out."""

    def __init__(self):
        self.m = 0
        self.n = 0
        self.parts = {}

    def ask(self, call):
        if call[0] != 0 and self.m == 0:
            return [-11]
        names = (self.begin, self.hold, self.sell, self.cancel, self.hand, self.all_out, self.part, self.real,
                 self.lost, self.strewn, self.realstrewn, self.inring, self.holding, self.plain, self.wouldhand,
                 self.state)
        given = call[2:] if call[0] == 5 else call[1:]
        return names[call[0]](*([given] if call[0] == 5 else given))

    def begin(self, m, n):
        if m not in range(1, 5) or n not in range(1, 6):
            return [-22]
        self.m, self.n = m, n
        self.parts = {(h, j): Fraction(0) for h in range(m + n) for j in range(n)}
        return [0]

    def hold(self, h, j, a, b):
        if (h, j) not in self.parts:
            return [-2]
        if b not in range(1, 101) or a > b:
            return [-22]
        others = sum(self.parts[k, j] for k in range(self.m + self.n) if k != h)
        if others + Fraction(a, b) > 1:
            return [-33]
        before = self.parts[h, j]
        self.parts[h, j] = Fraction(a, b)
        return [0, *before.as_integer_ratio()]

    def sell(self, h, k, j, a, b):
        if (h, j) not in self.parts or (k, j) not in self.parts:
            return [-2]
        if b not in range(1, 101) or a > b or h == k:
            return [-22]
        if self.parts[h, j] < Fraction(a, b):
            return [-33]
        kept = dict(self.parts)
        self.parts[h, j] -= Fraction(a, b)
        self.parts[k, j] += Fraction(a, b)
        told = [0, *self.parts[h, j].as_integer_ratio(), *self.parts[k, j].as_integer_ratio()]
        return self.unless_too_great(told, kept)

    def cancel(self, i):
        if i >= self.n:
            return [-2]
        own = self.parts[self.m + i, i]
        if own == 1:
            return [-33]
        kept = dict(self.parts)
        self.cancel_own(i)
        return self.unless_too_great([0, *own.as_integer_ratio()], kept)

    def hand(self, i):
        if i >= self.n:
            return [-2]
        if self.parts[self.m + i, i] == 1:
            return [-33]
        kept = dict(self.parts)
        return self.unless_too_great([self.hand_out(i)], kept)

    def all_out(self, row):
        if len(row) > 12 or any(i >= self.n for i in row):
            return [-22]
        kept = dict(self.parts)
        for i in row:
            if self.parts[self.m + i, i] != 1:
                self.hand_out(i)
        return self.unless_too_great(self.holding()[:1], kept)

    def part(self, h, j):
        if (h, j) not in self.parts:
            return [-2]
        return [0, *self.parts[h, j].as_integer_ratio()]

    def real(self, p, j):
        if p >= self.m or j >= self.n:
            return [-2]
        return [0, *owned(self.parts, self.m, self.n)[p][j].as_integer_ratio()]

    def lost(self, j):
        if j >= self.n:
            return [-2]
        return [0, *owned(self.parts, self.m, self.n)[-1][j].as_integer_ratio()]

    def strewn(self, j):
        if j >= self.n:
            return [-2]
        left = Fraction(1)
        for h in range(self.m + self.n):
            left -= self.parts[h, j]
        return [0, *left.as_integer_ratio()]

    def realstrewn(self, j):
        if j >= self.n:
            return [-2]
        return [0, *owned(self.parts, self.m, self.n)[-2][j].as_integer_ratio()]

    def inring(self, i):
        if i >= self.n:
            return [-2]
        companies = range(self.n)
        ways = {(x, y) for x in companies for y in companies if self.parts[self.m + x, y] > 0}
        for by in companies:
            ways |= {(x, y) for x in companies for y in companies if (x, by) in ways and (by, y) in ways}
        return [int((i, i) in ways)]

    def holding(self):
        found = [i for i in range(self.n) if any(self.parts[self.m + i, j] > 0 for j in range(self.n) if j != i)]
        return [len(found), *found]

    def plain(self):
        return [int(self.holding() == [0])]

    def wouldhand(self, i, j):
        if i >= self.n or j >= self.n:
            return [-2]
        if self.parts[self.m + i, i] == 1:
            return [-33]
        kept = dict(self.parts)
        self.hand_out(i)
        told = [number for h in range(self.m + self.n) for number in self.parts[h, j].as_integer_ratio()]
        self.parts = kept
        return [self.m + self.n] + told

    def state(self):
        return [self.m, self.n]

    def cancel_own(self, i):
        left = 1 - self.parts[self.m + i, i]
        self.parts[self.m + i, i] = Fraction(0)
        for h in range(self.m + self.n):
            self.parts[h, i] /= left

    def hand_out(self, i):
        self.cancel_own(i)
        others = [j for j in range(self.n) if j != i and self.parts[self.m + i, j] > 0]
        for j in others:
            given = self.parts[self.m + i, j]
            self.parts[self.m + i, j] = Fraction(0)
            for h in range(self.m + self.n):
                self.parts[h, j] += given * self.parts[h, i]
        return len(others)

    def unless_too_great(self, told, kept):
        if any(held.denominator > 10 ** 40 for held in self.parts.values()):
            self.parts = kept
            return [-75]
        return told
