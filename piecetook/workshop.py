"""What is told of how each kind of pieces is made, and what follows from it."""

KINDS = 8
MOST_MADE = 1000
MOST_LET_OUT = 1000000
MOST_USED = 1000
MOST_ORDERED = 1000000
# 2 ** 62, written out as only plain values stand at the top.
TOO_GREAT_FROM = 4611686018427387904

DONE = 0
NOT_TOLD = -2
WRONG = -22
CANNOT_BE = -33
USED_BUT_NOT_TOLD = -61
TOO_GREAT = -75


def is_kind(k):
    return k < KINDS


def are_uses(uses):
    return len(uses) == KINDS and max(uses) <= MOST_USED


def is_making(makes, out, uses):
    return 1 <= makes <= MOST_MADE and out <= MOST_LET_OUT and are_uses(uses)


class Making:
    def __init__(self, kind, makes, out, uses):
        self.kind = kind
        self.makes = makes
        self.out = out
        self.uses = tuple(uses)

    # Below 0 where a run uses more pieces of the kind than it makes.
    def leaves(self, kind):
        made = self.makes if kind == self.kind else 0
        return made - self.uses[kind]


def used_by(told, k):
    if k not in told:
        return []
    return [kind for kind in range(KINDS) if told[k].uses[kind] > 0]


def used_for(told, k):
    found = {k: True}
    waiting = [k]
    while len(waiting) > 0:
        newest = waiting.pop()
        for kind in used_by(told, newest):
            if kind not in found:
                found[kind] = True
                waiting.append(kind)
    return sorted(found)


# An equation is a list: the numbers before the unknowns, in the kinds' order, then what they come to together.
def taking_equation(told, kinds, kind):
    return [told[kind].leaves(other) for other in kinds] + [told[kind].out]


def running_equation(told, kinds, kind, ordered):
    return [told[other].leaves(kind) for other in kinds] + [ordered]


def taking_equations(told, kinds):
    return [taking_equation(told, kinds, kind) for kind in kinds]


def running_equations(told, kinds, k, n):
    return [running_equation(told, kinds, kind, n if kind == k else 0) for kind in kinds]


def lowest_terms(above, below):
    divisor = above
    rest = below
    while rest > 0:
        smaller = divisor % rest
        divisor = rest
        rest = smaller
    return (above // divisor, below // divisor)


# Multiplying where fractions would be divided keeps every number whole; first[at] is above 0, so no sign changes.
def without_unknown(equation, first, at):
    return [first[at] * number - equation[at] * taken for number, taken in zip(equation, first)]


# Gives a fraction for each unknown, or None where it can't be. Each unknown is taken off the equations ahead too:
# those behind stay as they'd be without that, and each equation has one unknown alone at the end.
def solved(equations):
    size = len(equations)
    left = equations
    for at in range(size):
        first = left[at]
        if first[at] <= 0:
            return None
        left = [first if i == at else without_unknown(left[i], first, at) for i in range(size)]
    return [lowest_terms(left[i][size], left[i][i]) for i in range(size)]


def is_too_great(fraction):
    return max(fraction) >= TOO_GREAT_FROM


def fraction_answer(fraction):
    if is_too_great(fraction):
        return [TOO_GREAT]
    return [DONE, fraction[0], fraction[1]]


def runs_answer(kinds, fractions):
    if any([is_too_great(fraction) for fraction in fractions]):
        return [TOO_GREAT]
    given = [len(kinds)]
    for kind, fraction in zip(kinds, fractions):
        given.extend([kind, fraction[0], fraction[1]])
    return given


def let_out_together(told, kinds, fractions):
    total = (0, 1)
    for kind, fraction in zip(kinds, fractions):
        above = total[0] * fraction[1] + told[kind].out * fraction[0] * total[1]
        total = lowest_terms(above, total[1] * fraction[1])
    return total


# Every answer is a list of numbers, as some calls answer more than one.
class Workshop:
    def __init__(self):
        self.told = {}

    def begin(self):
        self.told = {}
        return [DONE]

    def tell(self, k, makes, out, uses):
        if not is_kind(k) or not is_making(makes, out, uses):
            return [WRONG]
        self.told[k] = Making(k, makes, out, uses)
        return [DONE]

    def forget(self, k):
        refusal = self.refusal_of_kind(k)
        if refusal != DONE:
            return [refusal]
        self.told.pop(k)
        return [DONE]

    def took(self, k):
        refusal = self.refusal_of_question(k)
        if refusal != DONE:
            return [refusal]
        kinds = used_for(self.told, k)
        fractions = solved(taking_equations(self.told, kinds))
        if fractions is None:
            return [CANNOT_BE]
        return fraction_answer(fractions[kinds.index(k)])

    def runs(self, k, n):
        refusal = self.refusal_of_order(k, n)
        if refusal != DONE:
            return [refusal]
        kinds = used_for(self.told, k)
        fractions = solved(running_equations(self.told, kinds, k, n))
        if fractions is None:
            return [CANNOT_BE]
        return runs_answer(kinds, fractions)

    def let_out(self, k, n):
        refusal = self.refusal_of_order(k, n)
        if refusal != DONE:
            return [refusal]
        kinds = used_for(self.told, k)
        fractions = solved(running_equations(self.told, kinds, k, n))
        if fractions is None:
            return [CANNOT_BE]
        return fraction_answer(let_out_together(self.told, kinds, fractions))

    def refusal_of_kind(self, k):
        if not is_kind(k):
            return WRONG
        if k not in self.told:
            return NOT_TOLD
        return DONE

    def refusal_of_question(self, k):
        refusal = self.refusal_of_kind(k)
        if refusal != DONE:
            return refusal
        if any([kind not in self.told for kind in used_for(self.told, k)]):
            return USED_BUT_NOT_TOLD
        return DONE

    def refusal_of_order(self, k, n):
        refusal = self.refusal_of_question(k)
        if refusal != DONE:
            return refusal
        if not 1 <= n <= MOST_ORDERED:
            return WRONG
        return DONE
