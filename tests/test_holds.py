"""What holds over the whole program, over makings of many forms, and lines of calls against the document's words."""

import math
import random
import unittest
from fractions import Fraction

from tests.calls import LARGEST, all_out, asked, begin, forget, runs, tell, took
from tests.model import expected

ORDERS = (1, 2, 360, 999983, 1000000)

# How many numbers of uses are above 0, out of eight; the most used, made and let out.
SHAPES = [
    (1, 3, 9, 20),
    (2, 2, 12, 100),
    (2, 9, 40, 1000000),
    (4, 3, 25, 50),
    (8, 1, 14, 10),
    (8, 2, 20, 1000),
    (8, 100, 1000, 1000000),
    (3, 1000, 1000, 1000000),
    (2, 5, 6, 1),
    (1, 1000, 1000, 0),
]


def some_making(chance, shape):
    parts, most_used, most_made, most_out = shape
    uses = [chance.randint(1, most_used) if chance.random() * 8 < parts else 0 for _ in range(8)]
    return chance.randint((most_made + 1) // 2, most_made), chance.randint(0, most_out), uses


def workshops():
    """Dicts of makings, the same ones each time: all eight kinds told in most of them."""
    chance = random.Random(20)
    for turn in range(400):
        shape = SHAPES[turn % len(SHAPES)]
        kinds = list(range(8)) if turn % 4 else chance.sample(range(8), chance.randint(1, 7))
        yield {k: some_making(chance, shape) for k in kinds}


def of_told(makings, *calls):
    told = [tell(k, *making) for k, making in makings.items()]
    return asked(begin(), *told, *calls)[1 + len(told):]


def fraction_of(given):
    return Fraction(given[1], given[2])


def runs_of(given):
    return {given[at]: Fraction(given[at + 1], given[at + 2]) for at in range(1, len(given), 3)}


def above_and_below(given):
    """The numbers of each fraction that's told."""
    if len(given) == 3:
        return [given[1:]]
    return [given[at:at + 2] for at in range(2, len(given), 3)]


class Holds(unittest.TestCase):
    def test_all_is_n_times_what_a_piece_took(self):
        told = 0
        for makings in workshops():
            for n in ORDERS:
                calls = [call for k in range(8) for call in (took(k), all_out(k, n))]
                given = of_told(makings, *calls)
                for k in range(8):
                    one, together = given[2 * k], given[2 * k + 1]
                    if len(one) == 3 and len(together) == 3:
                        told += 1
                        self.assertEqual(fraction_of(together), n * fraction_of(one), (makings, k, n))
                    elif [-75] not in (one, together):
                        self.assertEqual(one, together, (makings, k, n))
        self.assertGreater(told, 2000)

    def test_as_much_is_made_as_is_used_and_ordered(self):
        told = 0
        for makings in workshops():
            for n in ORDERS:
                for k, given in enumerate(of_told(makings, *[runs(k, n) for k in range(8)])):
                    if given[0] < 0:
                        continue
                    told += 1
                    often = runs_of(given)
                    for kind in range(8):
                        made = makings[kind][0] * often[kind] if kind in often else 0
                        used = sum(makings[other][2][kind] * times for other, times in often.items())
                        self.assertEqual(made, used + (n if kind == k else 0), (makings, k, n))
        self.assertGreater(told, 2000)

    def test_what_a_run_makes_took_what_it_let_out_and_what_it_used(self):
        told = 0
        for makings in workshops():
            given = dict(enumerate(of_told(makings, *[took(k) for k in range(8)])))
            one = {k: fraction_of(answer) for k, answer in given.items() if len(answer) == 3}
            for k in one:
                makes, out, uses = makings[k]
                used = [kind for kind in range(8) if uses[kind]]
                if all(kind in one for kind in used):
                    told += 1
                    self.assertEqual(makes * one[k], out + sum(uses[kind] * one[kind] for kind in used), (makings, k))
        self.assertGreater(told, 500)

    def test_no_making_runs_less_than_not_at_all(self):
        for makings in workshops():
            for k, given in enumerate(of_told(makings, *[runs(k, 7) for k in range(8)])):
                if given[0] > 0:
                    self.assertGreaterEqual(min(runs_of(given).values()), 0, (makings, k))

    def test_fractions_are_in_lowest_terms_and_not_too_great(self):
        for makings in workshops():
            calls = [call for k in range(8) for call in (took(k), all_out(k, 360), runs(k, 360))]
            for given in of_told(makings, *calls):
                for above, below in above_and_below(given):
                    self.assertGreater(below, 0)
                    self.assertEqual(math.gcd(above, below), 1)
                    self.assertLess(max(above, below), 2 ** 62)

    def test_a_piece_took_is_told_just_where_runs_are(self):
        seen = set()
        for makings in workshops():
            for n in (1, 1000000):
                given = of_told(makings, *[call for k in range(8) for call in (took(k), runs(k, n))])
                for k in range(8):
                    one, often = given[2 * k], given[2 * k + 1]
                    if [-75] not in (one, often):
                        seen.add(min(one[0], 0))
                        self.assertEqual(min(one[0], 0), min(often[0], 0), (makings, k))
        self.assertEqual(seen, {0, -2, -61, -33})

    def test_where_one_lets_out_more_no_piece_took_less(self):
        more = 0
        questions = [took(k) for k in range(8)]
        for turn, makings in enumerate(workshops()):
            kind = sorted(makings)[turn % len(makings)]
            makes, out, uses = makings[kind]
            raised = dict(makings)
            raised[kind] = (makes, min(out + (1 if turn % 2 else 500000), 1000000), uses)
            for before, behind in zip(of_told(makings, *questions), of_told(raised, *questions)):
                if len(before) == 3 and len(behind) == 3:
                    self.assertGreaterEqual(fraction_of(behind), fraction_of(before), (makings, kind))
                    more += fraction_of(behind) > fraction_of(before)
                elif [-75] not in (before, behind):
                    self.assertEqual(before, behind, (makings, kind))
        self.assertGreater(more, 200)

    def test_a_kind_for_itself_runs_at_least_for_the_order(self):
        for makings in workshops():
            for k, given in enumerate(of_told(makings, *[runs(k, 6) for k in range(8)])):
                if given[0] > 0:
                    self.assertGreaterEqual(makings[k][0] * runs_of(given)[k], 6, (makings, k))


def some_call(chance, shape):
    kind = chance.choice([0, 1, 2, 3, 4, 5, 6, 7] * 6 + [8, LARGEST])
    n = chance.choice([1, 2, 3, 720, 1000, 999999, 1000000] * 3 + [0, 1000001, LARGEST])
    which = chance.choices("begin tell wrong forget took runs all".split(), (1, 30, 2, 3, 30, 30, 30))[0]
    if which == "begin":
        return begin()
    if which == "tell":
        return tell(kind, *some_making(chance, shape))
    if which == "wrong":
        return tell(kind, chance.randint(0, 1001), 5, [chance.randint(0, 1001)] * chance.randint(0, 20))
    return {"forget": forget(kind), "took": took(kind), "runs": runs(kind, n), "all": all_out(kind, n)}[which]


class Lines(unittest.TestCase):
    def test_lines_of_calls_answer_as_the_document_says(self):
        chance = random.Random(62)
        seen = {call: set() for call in range(6)}
        for turn in range(120):
            shape = SHAPES[turn % len(SHAPES)]
            line = [begin()] + [tell(k, *some_making(chance, shape)) for k in range(8)]
            line += [some_call(chance, shape) for _ in range(191)]
            given = asked(*line)
            for call, answer, answered in zip(line, given, expected(line)):
                self.assertEqual(answer, answered, (turn, call))
                seen[call[0]].add(min(answer[0], 0))
        refusals = {0, -22, -2, -61, -33, -75}
        self.assertEqual(seen, {0: {0}, 1: {0, -22}, 2: {0, -22, -2}, 3: refusals, 4: refusals, 5: refusals})


if __name__ == "__main__":
    unittest.main()
