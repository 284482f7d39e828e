"""Point 4: took."""

import unittest

from tests.calls import LARGEST, asked, begin, forget, last_of, tell, tell_all, took
from tests.forms import CANNOT_BE, long_row, row_of_nines, shifted

TOLD = {
    "a making that uses nothing": ({0: (1, 7, {})}, 0, 7, 1),
    "several pieces in a run": ({3: (4, 9, {})}, 3, 9, 4),
    "lowest terms": ({3: (6, 9, {})}, 3, 3, 2),
    "a whole number": ({3: (6, 30, {})}, 3, 5, 1),
    "the last kind": ({7: (1000, 1, {})}, 7, 1, 1000),
    "a million let out": ({2: (1, 1000000, {})}, 2, 1000000, 1),
    "one that uses another": ({0: (2, 5, {1: 3}), 1: (4, 7, {})}, 0, 41, 8),
    "one that is used by another": ({0: (2, 5, {1: 3}), 1: (4, 7, {})}, 1, 7, 4),
    "uses a kind of a lower number": ({6: (2, 5, {1: 3}), 1: (4, 7, {})}, 6, 41, 8),
    "three in a row": ({0: (1, 1, {1: 10}), 1: (1, 2, {2: 10}), 2: (1, 3, {})}, 0, 321, 1),
    "two ways to one kind": ({0: (1, 1, {1: 1, 2: 1}), 1: (1, 0, {3: 2}), 2: (1, 0, {3: 3}), 3: (2, 5, {})}, 0, 27, 2),
    "only a used one lets out": ({0: (3, 0, {5: 2}), 5: (1, 1, {})}, 0, 2, 3),
    "its own pieces": ({4: (5, 6, {4: 2})}, 4, 2, 1),
    "its own, one fewer than made": ({4: (5, 6, {4: 4})}, 4, 6, 1),
    "its own, 999 of 1,000": ({4: (1000, 6, {4: 999})}, 4, 6, 1),
    "a ring of two, from the first": ({0: (10, 3, {1: 1}), 1: (5, 20, {0: 2})}, 0, 35, 48),
    "a ring of two, from the second": ({0: (10, 3, {1: 1}), 1: (5, 20, {0: 2})}, 1, 103, 24),
    "a ring of two just tight": ({2: (1, 1, {6: 1}), 6: (2, 1, {2: 1})}, 2, 3, 1),
    "a ring behind another kind": ({7: (1, 1, {0: 48}), 0: (10, 3, {1: 1}), 1: (5, 20, {0: 2})}, 7, 36, 1),
    "not used by any": ({0: (1, 1, {1: 1}), 1: (1, 1, {})}, 0, 2, 1),
    "nothing let out": ({0: (3, 0, {})}, 0, 0, 1),
    "nothing let out by any": ({0: (9, 0, {1: 2}), 1: (9, 0, {0: 2})}, 1, 0, 1),
}

WRONG_KINDS = (8, 9, 255, 256, LARGEST)


class Told(unittest.TestCase):
    def test_worked_out_by_hand(self):
        for name, (makings, k, above, below) in TOLD.items():
            with self.subTest(name):
                self.assertEqual(last_of(*tell_all(makings), took(k)), [0, above, below])

    def test_every_kind(self):
        told = [tell(k, 10 + k, 3) for k in range(8)]
        for k in range(8):
            answered = [0, 1, (10 + k) // 3] if k in (2, 5) else [0, 3, 10 + k]
            self.assertEqual(last_of(*told, took(k)), answered)

    def test_used_kinds_in_any_order_of_telling(self):
        makings = {0: (10, 3, {1: 1}), 1: (5, 20, {0: 2})}
        self.assertEqual(last_of(*reversed(tell_all(makings)), took(0)), [0, 35, 48])

    def test_eight_kinds_that_all_use_one_another(self):
        told = [tell(k, 9, 5, [1] * 8) for k in range(8)]
        for k in range(8):
            self.assertEqual(last_of(*told, took(k)), [0, 5, 1])

    def test_eight_in_a_ring(self):
        told = [tell(k, 2, 1, [1 if kind == (k + 1) % 8 else 0 for kind in range(8)]) for k in range(8)]
        for k in range(8):
            self.assertEqual(last_of(*told, took(k)), [0, 1, 1])

    def test_kinds_that_are_not_used_for_it_are_left_out(self):
        own = [tell(3, 4, 9)]
        cannot = [tell(2, 1, 1, [0, 0, 5, 1, 0, 0, 0, 0])]
        uses_what_is_not_told = [tell(1, 1, 1, [1, 0, 0, 1, 0, 0, 0, 0])]
        self.assertEqual(last_of(*own, *cannot, *uses_what_is_not_told, took(3)), [0, 9, 4])


class Refused(unittest.TestCase):
    def test_wrong_kind(self):
        for k in WRONG_KINDS:
            for told in ([], [tell(kind) for kind in range(8)]):
                self.assertEqual(last_of(*told, took(k)), [-22])

    def test_not_told(self):
        for k in range(8):
            self.assertEqual(last_of(took(k)), [-2])
            self.assertEqual(last_of(*[tell(kind) for kind in range(8) if kind != k], took(k)), [-2])

    def test_not_told_ahead_of_used_but_not_told(self):
        self.assertEqual(last_of(tell(1, uses=[1] * 8), took(0)), [-2])

    def test_used_but_not_told(self):
        for k in range(8):
            for other in range(8):
                if other != k:
                    used = [1 if kind == other else 0 for kind in range(8)]
                    self.assertEqual(last_of(tell(k, uses=used), took(k)), [-61])

    def test_used_by_a_used_one_but_not_told(self):
        makings = {k: (9, 1, {k + 1: 1}) for k in range(7)}
        self.assertEqual(last_of(*tell_all(makings), took(0)), [-61])
        self.assertEqual(last_of(*tell_all(makings), tell(7), took(0)), [0, 597871, 4782969])

    def test_used_but_not_told_ahead_of_cannot_be(self):
        self.assertEqual(last_of(tell(0, 1, 1, [1, 1, 0, 0, 0, 0, 0, 0]), took(0)), [-61])
        self.assertEqual(last_of(tell(1, 1, 1, [0, 5, 0, 0, 0, 0, 0, 1]), took(1)), [-61])

    def test_cannot_be(self):
        for name, (makings, k) in CANNOT_BE.items():
            with self.subTest(name):
                self.assertEqual(last_of(*tell_all(makings), took(k)), [-33])

    def test_cannot_be_ahead_of_too_great(self):
        makings = row_of_nines(512)
        self.assertEqual(last_of(*tell_all(makings), took(0)), [-75])
        makings[6] = (1, 255, {6: 1})
        self.assertEqual(last_of(*tell_all(makings), took(0)), [-33])


class TooGreat(unittest.TestCase):
    def test_above(self):
        self.assertEqual(last_of(*tell_all(row_of_nines(511)), took(0)), [0, 2 ** 62 - 1, 1])
        self.assertEqual(last_of(*tell_all(row_of_nines(512)), took(0)), [-75])

    def test_below(self):
        self.assertEqual(last_of(*tell_all(long_row(1)), took(0)), [0, 1, 2 ** 62 - 1])
        self.assertEqual(last_of(*tell_all(long_row(0)), took(0)), [-75])

    def test_of_the_kind_alone_that_is_asked(self):
        calls = [begin()] + tell_all(row_of_nines(512)) + [took(k) for k in range(7)]
        answered = [[-75]] + [[0, 2 ** (62 - 9 * k) - 1, 1] for k in range(1, 7)]
        self.assertEqual(asked(*calls)[8:], answered)

    def test_where_a_used_one_took_too_much(self):
        makings = shifted(row_of_nines(512))
        makings[0] = (2, 0, {1: 1})
        self.assertEqual(last_of(*tell_all(makings), took(1)), [-75])
        self.assertEqual(last_of(*tell_all(makings), took(0)), [0, 2 ** 61, 1])

    def test_lowest_terms_count(self):
        # 512 times over in every making: the numbers before the unknowns grow beyond 2^62, what's told doesn't.
        makings = {k: (512, 0, {k + 1: 512}) for k in range(7)}
        makings[7] = (512, 512, {})
        self.assertEqual(last_of(*tell_all(makings), took(0)), [0, 1, 1])

    def test_nothing_let_out_is_never_too_great(self):
        makings = {k: (1000 - k, 0, {k + 1: 999 - k}) for k in range(7)}
        makings[7] = (997, 0, {})
        self.assertEqual(last_of(*tell_all(makings), took(0)), [0, 0, 1])

    def test_the_greatest_numbers(self):
        makings = {k: (1, 1000000, {kind: 1000 for kind in range(k + 1, 8)}) for k in range(8)}
        self.assertEqual(last_of(*tell_all(makings), took(0)), [-75])
        self.assertEqual(last_of(*tell_all(makings), took(4)), [0, 1000000 * 1001 ** 3, 1])


class Changes(unittest.TestCase):
    def test_what_is_told_between(self):
        calls = [
            begin(), took(0), tell(0, 2, 6, [0, 1] + [0] * 6), took(0), tell(1, 1, 4), took(0), took(0),
            tell(1, 1, 5), took(0), tell(1, 0, 5), took(0), forget(1), took(0), took(1), begin(), took(0),
        ]
        answered = [
            [0], [-2], [0], [-61], [0], [0, 5, 1], [0, 5, 1],
            [0], [0, 11, 2], [-22], [0, 11, 2], [0], [-61], [-2], [0], [-2],
        ]
        self.assertEqual(asked(*calls), answered)


if __name__ == "__main__":
    unittest.main()
