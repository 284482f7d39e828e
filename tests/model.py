"""The document's words as they stand, over Python's own fractions: what the program's answers are held against."""

from fractions import Fraction


class CannotBe(Exception):
    pass


def solve(rows):
    """Takes the unknowns off in order, from the equations behind alone, then finds the last unknown first."""
    rows = [[Fraction(number) for number in row] for row in rows]
    size = len(rows)
    for at in range(size):
        if rows[at][at] <= 0:
            raise CannotBe
        for behind in range(at + 1, size):
            times = rows[behind][at] / rows[at][at]
            rows[behind] = [number - times * first for number, first in zip(rows[behind], rows[at])]
    found = [Fraction(0)] * size
    for at in reversed(range(size)):
        known = sum(rows[at][other] * found[other] for other in range(at + 1, size))
        found[at] = (rows[at][size] - known) / rows[at][at]
    return found


def told_fraction(fraction):
    return [fraction.numerator, fraction.denominator]


def is_great(fraction):
    return abs(fraction.numerator) >= 2 ** 62 or fraction.denominator >= 2 ** 62


class Model:
    def __init__(self):
        self.makings = {}

    def begin(self):
        self.makings = {}
        return [0]

    def tell(self, k, makes, out, uses):
        if k > 7 or makes < 1 or makes > 1000 or out > 1000000 or len(uses) != 8 or any(u > 1000 for u in uses):
            return [-22]
        self.makings[k] = (makes, out, list(uses))
        return [0]

    def forget(self, k):
        if k > 7:
            return [-22]
        if k not in self.makings:
            return [-2]
        del self.makings[k]
        return [0]

    def used_for(self, k):
        kinds = {k}
        for _ in range(8):
            for kind in list(kinds):
                if kind in self.makings:
                    kinds |= {other for other in range(8) if self.makings[kind][2][other]}
        return sorted(kinds)

    def refusal(self, k):
        if k > 7:
            return -22
        if k not in self.makings:
            return -2
        if any(kind not in self.makings for kind in self.used_for(k)):
            return -61
        return 0

    def taken(self, k):
        """What a piece of each kind that's used for k took."""
        kinds = self.used_for(k)
        rows = []
        for kind in kinds:
            makes, out, uses = self.makings[kind]
            rows.append([(makes if other == kind else 0) - uses[other] for other in kinds] + [out])
        return dict(zip(kinds, solve(rows)))

    def ran(self, k, n):
        """How often the making of each kind that's used for k runs."""
        kinds = self.used_for(k)
        rows = []
        for kind in kinds:
            row = []
            for other in kinds:
                makes, _, uses = self.makings[other]
                row.append((makes if other == kind else 0) - uses[kind])
            rows.append(row + [n if kind == k else 0])
        return dict(zip(kinds, solve(rows)))

    def took(self, k):
        if self.refusal(k):
            return [self.refusal(k)]
        try:
            fraction = self.taken(k)[k]
        except CannotBe:
            return [-33]
        return [-75] if is_great(fraction) else [0] + told_fraction(fraction)

    def runs(self, k, n):
        if self.refusal(k):
            return [self.refusal(k)]
        if n < 1 or n > 1000000:
            return [-22]
        try:
            ran = self.ran(k, n)
        except CannotBe:
            return [-33]
        if any(is_great(fraction) for fraction in ran.values()):
            return [-75]
        given = [len(ran)]
        for kind, fraction in ran.items():
            given += [kind] + told_fraction(fraction)
        return given

    def all_out(self, k, n):
        if self.refusal(k):
            return [self.refusal(k)]
        if n < 1 or n > 1000000:
            return [-22]
        try:
            ran = self.ran(k, n)
        except CannotBe:
            return [-33]
        total = sum(self.makings[kind][1] * fraction for kind, fraction in ran.items())
        return [-75] if is_great(total) else [0] + told_fraction(Fraction(total))

    def answer(self, call):
        if call[0] == 1:
            return self.tell(call[1], call[2], call[3], call[5:])
        return [self.begin, None, self.forget, self.took, self.runs, self.all_out][call[0]](*call[1:])


def expected(calls):
    """What the calls, one list each, are to answer, one list each."""
    model = Model()
    return [model.answer(call) for call in calls]
