"""Point 5: runs."""

import unittest

from tests.calls import LARGEST, asked, begin, forget, last_of, runs, tell, tell_all
from tests.forms import CANNOT_BE, long_fan, long_row

RING = {0: (10, 3, {1: 1}), 1: (5, 20, {0: 2})}
TWO_WAYS = {0: (1, 1, {1: 1, 2: 1}), 1: (1, 0, {3: 2}), 2: (1, 0, {3: 3}), 3: (2, 5, {})}

TOLD = {
    "a making that uses nothing": ({0: (1, 7, {})}, 0, 4, [(0, 4, 1)]),
    "several pieces in a run": ({3: (4, 9, {})}, 3, 3, [(3, 3, 4)]),
    "lowest terms": ({3: (6, 9, {})}, 3, 4, [(3, 2, 3)]),
    "as many pieces as a run makes": ({3: (6, 9, {})}, 3, 6, [(3, 1, 1)]),
    "one that uses another": ({0: (2, 5, {1: 3}), 1: (4, 7, {})}, 0, 8, [(0, 4, 1), (1, 3, 1)]),
    "one that is used by another": ({0: (2, 5, {1: 3}), 1: (4, 7, {})}, 1, 8, [(1, 2, 1)]),
    "uses a kind of a lower number": ({6: (2, 5, {1: 3}), 1: (4, 7, {})}, 6, 1, [(1, 3, 8), (6, 1, 2)]),
    "two ways to one kind": (TWO_WAYS, 0, 1, [(0, 1, 1), (1, 1, 1), (2, 1, 1), (3, 5, 2)]),
    "a part of these": (TWO_WAYS, 2, 4, [(2, 4, 1), (3, 6, 1)]),
    "its own pieces": ({4: (5, 6, {4: 2})}, 4, 1, [(4, 1, 3)]),
    "its own, one fewer than made": ({4: (5, 6, {4: 4})}, 4, 7, [(4, 7, 1)]),
    "its own, 999 of 1,000": ({4: (1000, 6, {4: 999})}, 4, 7, [(4, 7, 1)]),
    "a ring of two, from the first": (RING, 0, 5, [(0, 25, 48), (1, 5, 48)]),
    "a ring of two, from the second": (RING, 1, 24, [(0, 1, 1), (1, 5, 1)]),
    "nothing let out": ({0: (3, 0, {5: 1}), 5: (1, 0, {})}, 0, 6, [(0, 2, 1), (5, 2, 1)]),
    "an order of 1": ({2: (1000, 1, {})}, 2, 1, [(2, 1, 1000)]),
    "an order of 1,000,000": ({2: (1000, 1, {})}, 2, 1000000, [(2, 1000, 1)]),
    "an order of 999,999": ({2: (1000, 1, {})}, 2, 999999, [(2, 999999, 1000)]),
    "an order of 1,000,000 round": (RING, 1, 1000000, [(0, 125000, 3), (1, 625000, 3)]),
}

WRONG_KINDS = (8, 9, 255, 256, LARGEST)
WRONG_ORDERS = (0, 1000001, 1000002, 2 ** 31, LARGEST)


def told_runs(rows):
    given = [len(rows)]
    for row in rows:
        given.extend(row)
    return given


class Told(unittest.TestCase):
    def test_worked_out_by_hand(self):
        for name, (makings, k, n, rows) in TOLD.items():
            with self.subTest(name):
                self.assertEqual(last_of(*tell_all(makings), runs(k, n)), told_runs(rows))

    def test_used_kinds_rising_in_any_order_of_telling(self):
        makings = {0: (1, 1, {7: 1}), 7: (1, 1, {3: 1}), 3: (1, 1, {5: 1}), 5: (1, 1, {1: 1}), 1: (1, 1, {})}
        answered = told_runs([(k, 1, 1) for k in (0, 1, 3, 5, 7)])
        self.assertEqual(last_of(*tell_all(makings), runs(0)), answered)
        self.assertEqual(last_of(*reversed(tell_all(makings)), runs(0)), answered)

    def test_all_that_are_used_and_no_others(self):
        told = [tell(k, 1, 1, [1 if kind == k + 1 else 0 for kind in range(8)]) for k in range(8)]
        for k in range(8):
            self.assertEqual(last_of(*told, runs(k, 9)), told_runs([(kind, 9, 1) for kind in range(k, 8)]))

    def test_other_kinds_may_be_wrong(self):
        calls = [tell(3, 4, 9), tell(2, 1, 1, [0, 0, 5, 1, 0, 0, 0, 0]), tell(1, 1, 1, [1, 0, 0, 1, 0, 0, 0, 0])]
        self.assertEqual(last_of(*calls, runs(3, 2)), [1, 3, 1, 2])

    def test_eight_kinds_that_all_use_one_another(self):
        told = [tell(k, 9, 5, [1] * 8) for k in range(8)]
        for k in range(8):
            rows = [(kind, 2 if kind == k else 1, 9) for kind in range(8)]
            self.assertEqual(last_of(*told, runs(k, 1)), told_runs(rows))

    def test_eight_in_a_ring(self):
        told = [tell(k, 2, 1, [1 if kind == (k + 1) % 8 else 0 for kind in range(8)]) for k in range(8)]
        rows = [(kind, 2 ** (7 - kind), 1) for kind in range(8)]
        self.assertEqual(last_of(*told, runs(0, 255)), told_runs(rows))

    def test_what_is_let_out_does_not_count(self):
        for out in (0, 1, 1000000):
            self.assertEqual(last_of(tell(3, 4, out), runs(3, 2)), [1, 3, 1, 2])


class Refused(unittest.TestCase):
    def test_wrong_kind(self):
        for k in WRONG_KINDS:
            for n in (1, 1000000) + WRONG_ORDERS:
                for told in ([], [tell(kind) for kind in range(8)]):
                    self.assertEqual(last_of(*told, runs(k, n)), [-22])

    def test_not_told(self):
        for k in range(8):
            for n in (1, 1000000) + WRONG_ORDERS:
                others = [tell(kind, uses=[1] * 8) for kind in range(8) if kind != k]
                self.assertEqual(last_of(runs(k, n)), [-2])
                self.assertEqual(last_of(*others, runs(k, n)), [-2])

    def test_used_but_not_told(self):
        for n in (1, 1000000) + WRONG_ORDERS:
            self.assertEqual(last_of(tell(0, uses=[0, 1] + [0] * 6), runs(0, n)), [-61])
            self.assertEqual(last_of(tell(7, uses=[1] + [0] * 7), runs(7, n)), [-61])
            makings = {k: (9, 1, {k + 1: 1}) for k in range(7)}
            self.assertEqual(last_of(*tell_all(makings), runs(0, n)), [-61])

    def test_used_but_not_told_ahead_of_cannot_be(self):
        self.assertEqual(last_of(tell(0, 1, 1, [1, 1, 0, 0, 0, 0, 0, 0]), runs(0)), [-61])

    def test_wrong_order(self):
        for n in WRONG_ORDERS:
            self.assertEqual(last_of(tell(0), runs(0, n)), [-22])

    def test_wrong_order_ahead_of_cannot_be(self):
        for name, (makings, k) in CANNOT_BE.items():
            for n in WRONG_ORDERS:
                with self.subTest(name, n=n):
                    self.assertEqual(last_of(*tell_all(makings), runs(k, n)), [-22])

    def test_wrong_order_ahead_of_too_great(self):
        for n in WRONG_ORDERS:
            self.assertEqual(last_of(*tell_all(long_fan(256)), runs(0, n)), [-22])

    def test_cannot_be(self):
        for name, (makings, k) in CANNOT_BE.items():
            for n in (1, 2, 1000000):
                with self.subTest(name, n=n):
                    self.assertEqual(last_of(*tell_all(makings), runs(k, n)), [-33])

    def test_cannot_be_ahead_of_too_great(self):
        makings = long_fan(256)
        self.assertEqual(last_of(*tell_all(makings), runs(0)), [-75])
        makings[7] = (1, 0, {7: 1})
        self.assertEqual(last_of(*tell_all(makings), runs(0)), [-33])


class TooGreat(unittest.TestCase):
    def test_above(self):
        given = last_of(*tell_all(long_fan(255)), runs(0))
        self.assertEqual(given, told_runs([(0, 1, 1)] + [(k, 2 ** (9 * k - 1) - 1, 1) for k in range(1, 8)]))
        self.assertEqual(last_of(*tell_all(long_fan(256)), runs(0)), [-75])
        self.assertEqual(last_of(*tell_all(long_fan(255)), runs(0, 2)), [-75])

    def test_above_of_exactly_that_size(self):
        makings = {k: (1, 0, {k + 1: 512}) for k in range(6)}
        makings[6] = (1, 0, {})
        self.assertEqual(last_of(*tell_all(makings), runs(0, 255))[-3:], [6, 255 * 2 ** 54, 1])
        self.assertEqual(last_of(*tell_all(makings), runs(0, 256)), [-75])

    def test_below(self):
        round_row = last_of(*tell_all(long_row(1)), runs(0))
        self.assertEqual(round_row, told_runs([(k, 2 ** (53 - 9 * k) if k < 6 else 1, 2 ** 62 - 1) for k in range(7)]))
        self.assertEqual(last_of(*tell_all(long_row(0)), runs(0)), [-75])
        self.assertEqual(last_of(*tell_all(long_row(0)), runs(0, 2))[-3:], [6, 1, 2 ** 61])

    def test_of_any_one(self):
        # Kind 7 of the first runs too often; in the second it does so as the lowest number, in the third in between.
        makings = long_fan(256)
        turned = {7 - k: (makes, out, {7 - kind: many for kind, many in used.items()})
                  for k, (makes, out, used) in makings.items()}
        place = {0: 0, 1: 1, 2: 2, 3: 3, 4: 5, 5: 6, 6: 7, 7: 4}
        between = {place[k]: (makes, out, {place[kind]: many for kind, many in used.items()})
                   for k, (makes, out, used) in makings.items()}
        self.assertEqual(last_of(*tell_all(makings), runs(0)), [-75])
        self.assertEqual(last_of(*tell_all(turned), runs(7)), [-75])
        self.assertEqual(last_of(*tell_all(between), runs(0)), [-75])

    def test_one_by_one_where_the_others_are_told(self):
        self.assertEqual(last_of(*tell_all(long_fan(256)), runs(1))[-3:], [7, 2 ** 54, 1])


class Changes(unittest.TestCase):
    def test_what_is_told_between(self):
        calls = [
            begin(), runs(0, 4), tell(0, 2, 6, [0, 1] + [0] * 6), runs(0, 4), tell(1, 1, 4), runs(0, 4), runs(0, 4),
            tell(1, 3, 4), runs(0, 4), tell(1, 0, 5), runs(0, 4), forget(1), runs(0, 4), runs(1, 4), begin(), runs(0),
        ]
        answered = [
            [0], [-2], [0], [-61], [0], [2, 0, 2, 1, 1, 2, 1], [2, 0, 2, 1, 1, 2, 1],
            [0], [2, 0, 2, 1, 1, 2, 3], [-22], [2, 0, 2, 1, 1, 2, 3], [0], [-61], [-2], [0], [-2],
        ]
        self.assertEqual(asked(*calls), answered)


if __name__ == "__main__":
    unittest.main()
