"""Makings that several tests ask of. A dict: the kind, then what it makes, lets out and uses (a dict)."""

CANNOT_BE = {
    "its own, just as many as made": ({4: (5, 6, {4: 5})}, 4),
    "its own, one more than made": ({4: (5, 6, {4: 6})}, 4),
    "its own, all of 1,000": ({4: (1000, 6, {4: 1000})}, 4),
    "nothing let out": ({4: (5, 0, {4: 5})}, 4),
    "a ring of two that uses what it makes": ({0: (1, 3, {1: 1}), 1: (1, 2, {0: 1})}, 0),
    "the same from its second": ({0: (1, 3, {1: 1}), 1: (1, 2, {0: 1})}, 1),
    "a ring of two that uses more": ({0: (2, 3, {1: 3}), 1: (2, 2, {0: 2})}, 1),
    "a kind that's used": ({0: (9, 1, {1: 1}), 1: (2, 1, {1: 2})}, 0),
    "a kind that's used by a used one": ({5: (9, 1, {3: 1}), 3: (9, 1, {1: 1}), 1: (2, 1, {1: 3})}, 5),
    # Taken together the minus signs fall away here, so that only the first unknown tells.
    "each by itself": ({0: (1, 1, {0: 6, 1: 1}), 1: (1, 1, {0: 1, 1: 6})}, 0),
    "the first alone has nothing left": ({0: (1, 1, {0: 1, 1: 1}), 1: (9, 1, {0: 1})}, 0),
    "the first alone has nothing left, from the second": ({0: (1, 1, {0: 1, 1: 1}), 1: (9, 1, {0: 1})}, 1),
    "eight that use one another": ({k: (8, 1, {kind: 1 for kind in range(8)}) for k in range(8)}, 3),
}


def row_of_nines(last):
    """Kinds 0 to 6 in a row: a piece of kind 0 takes 2^62 - 1 where kind 0 lets out 511, 1 more where 512."""
    makings = {k: (1, 511, {k + 1: 512}) for k in range(1, 6)}
    makings[0] = (1, last, {1: 512})
    makings[6] = (1, 255, {})
    return makings


def long_row(used_by_last):
    """Kinds 0 to 6 in a row, or in a ring: a piece of kind 0 takes 1 out of 2^62, or out of 2^62 - 1."""
    makings = {k: (512, 0, {k + 1: 1}) for k in range(6)}
    makings[6] = (256, 1, {0: used_by_last})
    return makings


def long_fan(first):
    """A run for one piece of kind 0 takes 2^62 - 1 runs of kind 7 where first is 255, more where it's more."""
    makings = {k: (1, 0, {k + 1: 512}) for k in range(1, 7)}
    makings[7] = (1, 0, {})
    makings[0] = (1, 0, {kind: 511 for kind in range(2, 8)})
    makings[0][2][1] = first
    return makings


def shifted(makings):
    """The same makings, each kind's number one more."""
    return {k + 1: (makes, out, {kind + 1: many for kind, many in used.items()})
            for k, (makes, out, used) in makings.items()}
