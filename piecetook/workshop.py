"""What is told of how each kind of pieces is made."""

KINDS = 8
MOST_MADE = 1000
MOST_LET_OUT = 1000000
MOST_USED = 1000

DONE = 0
NOT_TOLD = -2
WRONG = -22


def is_kind(k):
    return k < KINDS


def are_uses(uses):
    return len(uses) == KINDS and max(uses) <= MOST_USED


def is_making(makes, out, uses):
    return 1 <= makes <= MOST_MADE and out <= MOST_LET_OUT and are_uses(uses)


# Every answer is a list of numbers, as some calls answer more than one.
class Workshop:
    def __init__(self):
        self.told = {}

    def begin(self):
        self.told = {}
        return [DONE]

    def tell(self, k, makes, out, uses):
        if not is_kind(k) or not is_making(makes, out, uses):
            return [WRONG]
        self.told[k] = (makes, out, tuple(uses))
        return [DONE]

    def forget(self, k):
        if not is_kind(k):
            return [WRONG]
        if k not in self.told:
            return [NOT_TOLD]
        self.told.pop(k)
        return [DONE]
