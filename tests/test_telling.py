"""Points 1 to 3: begin, tell, forget."""

import unittest

from tests.calls import LARGEST, all_out, asked, begin, firsts, forget, runs, tell, took
from tests.model import expected

NOTHING = [0] * 8

ALLOWED = {
    "an ordinary making": (2, 3, 50, [0, 1, 0, 4, 0, 0, 0, 9]),
    "kind 0": (0, 1, 0, NOTHING),
    "kind 7": (7, 1, 0, NOTHING),
    "makes 1": (3, 1, 5, NOTHING),
    "makes 1,000": (3, 1000, 5, NOTHING),
    "lets out nothing": (3, 1, 0, NOTHING),
    "lets out 1,000,000": (3, 1, 1000000, NOTHING),
    "uses 1,000 of the first kind": (3, 1, 5, [1000] + [0] * 7),
    "uses 1,000 of the last kind": (3, 1, 5, [0] * 7 + [1000]),
    "uses 1,000 of every kind": (3, 1, 5, [1000] * 8),
    "uses its own kind": (3, 1, 5, [0, 0, 0, 1000, 0, 0, 0, 0]),
    "uses of its own as many as it makes": (3, 6, 5, [0, 0, 0, 6, 0, 0, 0, 0]),
    "every number at its most": (7, 1000, 1000000, [1000] * 8),
}

REFUSED = {
    "kind 8": (8, 1, 5, NOTHING),
    "the largest kind": (LARGEST, 1, 5, NOTHING),
    "makes 0": (3, 0, 5, NOTHING),
    "makes 1,001": (3, 1001, 5, NOTHING),
    "makes the largest": (3, LARGEST, 5, NOTHING),
    "lets out 1,000,001": (3, 1, 1000001, NOTHING),
    "lets out the largest": (3, 1, LARGEST, NOTHING),
    "every number wrong": (LARGEST, LARGEST, LARGEST, [LARGEST] * 20),
}
for place in range(8):
    for many in (1001, LARGEST):
        REFUSED[f"uses {many} at {place}"] = (3, 1, 5, [0] * place + [many] + [0] * (7 - place))
for length in list(range(8)) + list(range(9, 21)):
    REFUSED[f"uses of {length} numbers"] = (3, 1, 5, [0] * length)

WRONG_KINDS = (8, 9, 255, 256, LARGEST)

# Every kind uses all of them: whatever is told anew is seen in what's asked of any.
ALL_TOLD = [tell(k, 20 + k, 10 + k, [1 + (k + kind) % 2 for kind in range(8)]) for k in range(8)]
ALL_ASKED = [call for k in range(8) for call in (took(k), runs(k, 3), all_out(k, 3))]


class Begin(unittest.TestCase):
    def test_answers_0(self):
        self.assertEqual(firsts(begin()), [0])

    def test_nothing_is_told_then(self):
        for k in range(8):
            self.assertEqual(firsts(begin(), forget(k)), [0, -2])

    def test_may_come_again(self):
        self.assertEqual(firsts(begin(), begin(), begin()), [0, 0, 0])

    def test_again_takes_away_all_that_was_told(self):
        calls = [begin()] + [tell(k) for k in range(8)] + [begin()] + [forget(k) for k in range(8)]
        self.assertEqual(firsts(*calls), [0] * 10 + [-2] * 8)

    def test_can_be_told_anew_behind_it(self):
        self.assertEqual(firsts(begin(), tell(4), begin(), tell(4), forget(4)), [0] * 5)


class Tell(unittest.TestCase):
    def test_allowed(self):
        for name, (k, makes, out, uses) in ALLOWED.items():
            with self.subTest(name):
                self.assertEqual(firsts(begin(), tell(k, makes, out, uses), forget(k)), [0, 0, 0])

    def test_every_kind(self):
        calls = [begin()] + [tell(k) for k in range(8)] + [forget(k) for k in range(8)]
        self.assertEqual(firsts(*calls), [0] * 17)

    def test_tells_of_its_own_kind_alone(self):
        for k in range(8):
            others = [other for other in range(8) if other != k]
            calls = [begin(), tell(k, uses=[1] * 8)] + [forget(other) for other in others]
            self.assertEqual(firsts(*calls), [0, 0] + [-2] * 7)

    def test_keeps_what_is_told(self):
        for name, (k, makes, out, uses) in ALLOWED.items():
            with self.subTest(name):
                others = [tell(other, other + 1, other + 20) for other in range(8) if other != k]
                calls = [begin()] + others + [tell(k, makes, out, uses), took(k), runs(k), all_out(k)]
                self.assertEqual(asked(*calls), expected(calls))

    def test_again_takes_the_place_of_what_was_told(self):
        calls = [begin(), tell(5, 2, 30), took(5), tell(5, 7, 80), took(5), runs(5), tell(5, 1, 9, [0, 1] + [0] * 6)]
        answered = [[0], [0], [0, 15, 1], [0], [0, 80, 7], [1, 5, 1, 7], [0], [-61]]
        self.assertEqual(asked(*calls, took(5)), answered)

    def test_again_leaves_the_other_kinds(self):
        calls = [begin(), tell(5, 2, 30), tell(6, 3, 40), tell(5, 7, 80), took(6), runs(6)]
        self.assertEqual(asked(*calls)[4:], [[0, 40, 3], [1, 6, 1, 3]])

    def test_told_twice_is_forgotten_once(self):
        self.assertEqual(firsts(begin(), tell(5), tell(5, 9), forget(5), forget(5)), [0, 0, 0, 0, -2])

    def test_refused(self):
        for name, making in REFUSED.items():
            with self.subTest(name):
                self.assertEqual(firsts(begin(), tell(*making)), [0, -22])

    def test_refused_tells_nothing(self):
        for name, making in REFUSED.items():
            with self.subTest(name):
                calls = [begin(), tell(*making)] + [forget(k) for k in range(8)]
                self.assertEqual(firsts(*calls), [0, -22] + [-2] * 8)

    def test_refused_leaves_what_was_told(self):
        for name, making in REFUSED.items():
            with self.subTest(name):
                before = asked(begin(), *ALL_TOLD, *ALL_ASKED)
                behind = asked(begin(), *ALL_TOLD, tell(*making), *ALL_ASKED)
                self.assertEqual(behind, before[:9] + [[-22]] + before[9:])
                self.assertGreaterEqual(min(before), [0])


class Forget(unittest.TestCase):
    def test_told(self):
        for k in range(8):
            self.assertEqual(firsts(begin(), tell(k), forget(k)), [0, 0, 0])

    def test_wrong_kind(self):
        for k in WRONG_KINDS:
            with self.subTest(k):
                self.assertEqual(firsts(begin(), forget(k)), [0, -22])

    def test_wrong_kind_where_all_are_told(self):
        told = [tell(k) for k in range(8)]
        for k in WRONG_KINDS:
            with self.subTest(k):
                calls = [begin()] + told + [forget(k)] + [forget(kind) for kind in range(8)]
                self.assertEqual(firsts(*calls), [0] * 9 + [-22] + [0] * 8)

    def test_never_told(self):
        for k in range(8):
            self.assertEqual(firsts(begin(), forget(k)), [0, -2])

    def test_used_but_never_told(self):
        self.assertEqual(firsts(begin(), tell(1, uses=[5] * 8), forget(2), forget(1)), [0, 0, -2, 0])

    def test_forgotten_already(self):
        self.assertEqual(firsts(begin(), tell(6), forget(6), forget(6), forget(6)), [0, 0, 0, -2, -2])

    def test_begun_anew_since(self):
        self.assertEqual(firsts(begin(), tell(6), begin(), forget(6)), [0, 0, 0, -2])

    def test_told_again_since(self):
        self.assertEqual(firsts(begin(), tell(6), forget(6), tell(6), forget(6)), [0] * 5)

    def test_forgets_its_own_kind_alone(self):
        told = [tell(k, k + 1, k + 10) for k in range(8)]
        for k in range(8):
            given = asked(begin(), *told, forget(k), *[took(kind) for kind in range(8)])[10:]
            before = asked(begin(), *told, *[took(kind) for kind in range(8)])[9:]
            self.assertEqual(given, before[:k] + [[-2]] + before[k + 1:])

    def test_refused_changes_nothing(self):
        for k, refusal in ((2, -2), (4, -2), (8, -22), (LARGEST, -22)):
            calls = [begin(), tell(3, 4, 13), forget(k), took(3), runs(3, 2), forget(3)]
            self.assertEqual(asked(*calls), [[0], [0], [refusal], [0, 13, 4], [1, 3, 1, 2], [0]])


if __name__ == "__main__":
    unittest.main()
