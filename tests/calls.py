"""Calls as the interface lays them out, for the tests."""

from piecetook.makings import answers

LARGEST = 4294967295


def begin():
    return [0]


def tell(k, makes=1, out=0, uses=(0,) * 8):
    return [1, k, makes, out, len(uses)] + list(uses)


def forget(k):
    return [2, k]


def took(k):
    return [3, k]


def runs(k, n=1):
    return [4, k, n]


def all_out(k, n=1):
    return [5, k, n]


def uses_of(used):
    """The row that tell takes, from a dict of how many pieces of which kinds are used."""
    return [used.get(kind, 0) for kind in range(8)]


def tell_all(makings):
    """A call of tell for each row of a dict: the kind, then what it makes, lets out and uses (a dict)."""
    return [tell(k, makes, out, uses_of(used)) for k, (makes, out, used) in makings.items()]


def in_one_list(calls):
    numbers = []
    for call in calls:
        numbers.extend(call)
    return numbers


def split(given):
    """The answers, call by call, from the one list that is given back."""
    parts = []
    at = 0
    while at < len(given):
        end = at + 1 + given[at]
        if given[at] < 1 or end > len(given):
            raise AssertionError(f"no answer's length at {at} of {given}")
        parts.append(given[at + 1:end])
        at = end
    return parts


def asked(*calls):
    """What the calls answer, one list for each."""
    return split(answers(in_one_list(calls)))


def firsts(*calls):
    """What the calls answer where each answers one number alone."""
    numbers = []
    for part in asked(*calls):
        if len(part) != 1:
            raise AssertionError(f"{part} is not one number alone")
        numbers.append(part[0])
    return numbers


def last_of(*calls):
    """What the last of the calls answers, where a begin goes ahead of them."""
    return asked(begin(), *calls)[-1]
