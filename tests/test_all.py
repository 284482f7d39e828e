"""Point 6: all."""

import unittest

from tests.calls import LARGEST, all_out, asked, begin, forget, last_of, runs, tell, tell_all, took
from tests.forms import CANNOT_BE, long_fan, long_row, row_of_nines, shifted

RING = {0: (10, 3, {1: 1}), 1: (5, 20, {0: 2})}
TWO_WAYS = {0: (1, 1, {1: 1, 2: 1}), 1: (1, 0, {3: 2}), 2: (1, 0, {3: 3}), 3: (2, 5, {})}

TOLD = {
    "a making that uses nothing": ({0: (1, 7, {})}, 0, 4, 28, 1),
    "several pieces in a run": ({3: (4, 9, {})}, 3, 3, 27, 4),
    "lowest terms": ({3: (6, 9, {})}, 3, 5, 15, 2),
    "one that uses another": ({0: (2, 5, {1: 3}), 1: (4, 7, {})}, 0, 8, 41, 1),
    "one that is used by another": ({0: (2, 5, {1: 3}), 1: (4, 7, {})}, 1, 8, 14, 1),
    "uses a kind of a lower number": ({6: (2, 5, {1: 3}), 1: (4, 7, {})}, 6, 2, 41, 4),
    "two ways to one kind": (TWO_WAYS, 0, 4, 54, 1),
    "only a used one lets out": ({0: (3, 0, {5: 2}), 5: (1, 1, {})}, 0, 2, 4, 3),
    "its own pieces": ({4: (5, 6, {4: 2})}, 4, 10, 20, 1),
    "its own, one fewer than made": ({4: (5, 6, {4: 4})}, 4, 7, 42, 1),
    "a ring of two, from the first": (RING, 0, 5, 175, 48),
    "a ring of two, from the second": (RING, 1, 24, 103, 1),
    "nothing let out": ({0: (3, 0, {})}, 0, 6, 0, 1),
    "nothing let out by any": ({0: (9, 0, {1: 2}), 1: (9, 0, {0: 2})}, 1, 1000000, 0, 1),
    "an order of 1": ({2: (1000, 1, {})}, 2, 1, 1, 1000),
    "an order of 1,000,000": ({2: (1000, 1, {})}, 2, 1000000, 1000, 1),
    "a million times a million": ({2: (1, 1000000, {})}, 2, 1000000, 10 ** 12, 1),
    "an order of 1,000,000 round": (RING, 1, 1000000, 12875000, 3),
}

WRONG_KINDS = (8, 9, 255, 256, LARGEST)
WRONG_ORDERS = (0, 1000001, 1000002, 2 ** 31, LARGEST)


class Told(unittest.TestCase):
    def test_worked_out_by_hand(self):
        for name, (makings, k, n, above, below) in TOLD.items():
            with self.subTest(name):
                self.assertEqual(last_of(*tell_all(makings), all_out(k, n)), [0, above, below])

    def test_eight_kinds_that_all_use_one_another(self):
        told = [tell(k, 9, 5, [1] * 8) for k in range(8)]
        for k in range(8):
            self.assertEqual(last_of(*told, all_out(k, 7)), [0, 35, 1])

    def test_other_kinds_may_be_wrong(self):
        calls = [tell(3, 4, 9), tell(2, 1, 1, [0, 0, 5, 1, 0, 0, 0, 0]), tell(1, 1, 1, [1, 0, 0, 1, 0, 0, 0, 0])]
        self.assertEqual(last_of(*calls, all_out(3, 2)), [0, 9, 2])


class Refused(unittest.TestCase):
    def test_wrong_kind(self):
        for k in WRONG_KINDS:
            for n in (1, 1000000) + WRONG_ORDERS:
                for told in ([], [tell(kind) for kind in range(8)]):
                    self.assertEqual(last_of(*told, all_out(k, n)), [-22])

    def test_not_told(self):
        for k in range(8):
            for n in (1, 1000000) + WRONG_ORDERS:
                others = [tell(kind, uses=[1] * 8) for kind in range(8) if kind != k]
                self.assertEqual(last_of(all_out(k, n)), [-2])
                self.assertEqual(last_of(*others, all_out(k, n)), [-2])

    def test_used_but_not_told(self):
        for n in (1, 1000000) + WRONG_ORDERS:
            self.assertEqual(last_of(tell(0, uses=[0, 1] + [0] * 6), all_out(0, n)), [-61])
            self.assertEqual(last_of(tell(7, uses=[1] + [0] * 7), all_out(7, n)), [-61])
            makings = {k: (9, 1, {k + 1: 1}) for k in range(7)}
            self.assertEqual(last_of(*tell_all(makings), all_out(0, n)), [-61])

    def test_used_but_not_told_ahead_of_cannot_be(self):
        self.assertEqual(last_of(tell(0, 1, 1, [1, 1, 0, 0, 0, 0, 0, 0]), all_out(0)), [-61])

    def test_wrong_order(self):
        for n in WRONG_ORDERS:
            self.assertEqual(last_of(tell(0), all_out(0, n)), [-22])

    def test_wrong_order_ahead_of_cannot_be(self):
        for name, (makings, k) in CANNOT_BE.items():
            for n in WRONG_ORDERS:
                with self.subTest(name, n=n):
                    self.assertEqual(last_of(*tell_all(makings), all_out(k, n)), [-22])

    def test_wrong_order_ahead_of_too_great(self):
        for n in WRONG_ORDERS:
            self.assertEqual(last_of(*tell_all(row_of_nines(512)), all_out(0, n)), [-22])

    def test_cannot_be(self):
        for name, (makings, k) in CANNOT_BE.items():
            for n in (1, 2, 1000000):
                with self.subTest(name, n=n):
                    self.assertEqual(last_of(*tell_all(makings), all_out(k, n)), [-33])

    def test_cannot_be_ahead_of_too_great(self):
        makings = row_of_nines(512)
        makings[6] = (1, 255, {6: 1})
        self.assertEqual(last_of(*tell_all(makings), all_out(0)), [-33])


class TooGreat(unittest.TestCase):
    def test_above(self):
        self.assertEqual(last_of(*tell_all(row_of_nines(511)), all_out(0, 1)), [0, 2 ** 62 - 1, 1])
        self.assertEqual(last_of(*tell_all(row_of_nines(512)), all_out(0, 1)), [-75])
        self.assertEqual(last_of(*tell_all(row_of_nines(511)), all_out(0, 2)), [-75])

    def test_above_where_only_the_order_makes_it_so(self):
        told = tell_all(row_of_nines(511))
        self.assertEqual(last_of(*told, took(1)), [0, 2 ** 53 - 1, 1])
        self.assertEqual(last_of(*told, all_out(1, 512)), [0, 2 ** 62 - 512, 1])
        self.assertEqual(last_of(*told, all_out(1, 513)), [-75])

    def test_below(self):
        self.assertEqual(last_of(*tell_all(long_row(1)), all_out(0, 1)), [0, 1, 2 ** 62 - 1])
        self.assertEqual(last_of(*tell_all(long_row(0)), all_out(0, 1)), [-75])
        self.assertEqual(last_of(*tell_all(long_row(0)), all_out(0, 3)), [-75])

    def test_told_where_what_a_piece_took_is_not(self):
        told = tell_all(long_row(0))
        self.assertEqual(last_of(*told, took(0)), [-75])
        self.assertEqual(last_of(*told, all_out(0, 2)), [0, 1, 2 ** 61])

    def test_told_where_runs_are_not(self):
        makings = long_fan(256)
        makings[0] = (1, 9, makings[0][2])
        for n in (1, 1000000):
            self.assertEqual(last_of(*tell_all(makings), runs(0, n)), [-75])
            self.assertEqual(last_of(*tell_all(makings), all_out(0, n)), [0, 9 * n, 1])

    def test_told_where_the_parts_are_not(self):
        makings = shifted(row_of_nines(512))
        makings[0] = (2, 0, {1: 1})
        self.assertEqual(last_of(*tell_all(makings), all_out(1, 1)), [-75])
        self.assertEqual(last_of(*tell_all(makings), all_out(0, 1)), [0, 2 ** 61, 1])
        self.assertEqual(last_of(*tell_all(makings), all_out(0, 2)), [-75])


class Changes(unittest.TestCase):
    def test_what_is_told_between(self):
        calls = [
            begin(), all_out(0, 4), tell(0, 2, 6, [0, 1] + [0] * 6), all_out(0, 4), tell(1, 1, 4), all_out(0, 4),
            all_out(0, 4), tell(1, 3, 4), all_out(0, 4), tell(1, 0, 5), all_out(0, 4), forget(1), all_out(0, 4),
            all_out(1, 4), begin(), all_out(0),
        ]
        answered = [
            [0], [-2], [0], [-61], [0], [0, 20, 1], [0, 20, 1], [0], [0, 44, 3], [-22], [0, 44, 3], [0], [-61],
            [-2], [0], [-2],
        ]
        self.assertEqual(asked(*calls), answered)


if __name__ == "__main__":
    unittest.main()
