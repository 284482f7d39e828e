"""Points 1 to 3: begin, tell, forget."""

import unittest

from piecetook.workshop import Workshop
from tests.calls import LARGEST, begin, firsts, forget, tell

NOTHING = [0] * 8

ALLOWED = {
    "an ordinary making": (2, 3, 50, [0, 1, 0, 4, 0, 0, 0, 9]),
    "kind 0": (0, 1, 0, NOTHING),
    "kind 7": (7, 1, 0, NOTHING),
    "makes 1": (3, 1, 5, NOTHING),
    "makes 1,000": (3, 1000, 5, NOTHING),
    "lets out nothing": (3, 1, 0, NOTHING),
    "lets out 1,000,000": (3, 1, 1000000, NOTHING),
    "uses 1,000 of the first kind": (3, 1, 5, [1000] + [0] * 7),
    "uses 1,000 of the last kind": (3, 1, 5, [0] * 7 + [1000]),
    "uses 1,000 of every kind": (3, 1, 5, [1000] * 8),
    "uses its own kind": (3, 1, 5, [0, 0, 0, 1000, 0, 0, 0, 0]),
    "uses of its own as many as it makes": (3, 6, 5, [0, 0, 0, 6, 0, 0, 0, 0]),
    "every number at its most": (7, 1000, 1000000, [1000] * 8),
}

REFUSED = {
    "kind 8": (8, 1, 5, NOTHING),
    "the largest kind": (LARGEST, 1, 5, NOTHING),
    "makes 0": (3, 0, 5, NOTHING),
    "makes 1,001": (3, 1001, 5, NOTHING),
    "makes the largest": (3, LARGEST, 5, NOTHING),
    "lets out 1,000,001": (3, 1, 1000001, NOTHING),
    "lets out the largest": (3, 1, LARGEST, NOTHING),
    "every number wrong": (LARGEST, LARGEST, LARGEST, [LARGEST] * 20),
}
for place in range(8):
    for many in (1001, LARGEST):
        REFUSED[f"uses {many} at {place}"] = (3, 1, 5, [0] * place + [many] + [0] * (7 - place))
for length in list(range(8)) + list(range(9, 21)):
    REFUSED[f"uses of {length} numbers"] = (3, 1, 5, [0] * length)

WRONG_KINDS = (8, 9, 255, 256, LARGEST)


class Begin(unittest.TestCase):
    def test_answers_0(self):
        self.assertEqual(firsts(begin()), [0])

    def test_nothing_is_told_then(self):
        for k in range(8):
            self.assertEqual(firsts(begin(), forget(k)), [0, -2])

    def test_may_come_again(self):
        self.assertEqual(firsts(begin(), begin(), begin()), [0, 0, 0])

    def test_again_takes_away_all_that_was_told(self):
        calls = [begin()] + [tell(k) for k in range(8)] + [begin()] + [forget(k) for k in range(8)]
        self.assertEqual(firsts(*calls), [0] * 10 + [-2] * 8)

    def test_can_be_told_anew_behind_it(self):
        self.assertEqual(firsts(begin(), tell(4), begin(), tell(4), forget(4)), [0] * 5)


class Tell(unittest.TestCase):
    def test_allowed(self):
        for name, (k, makes, out, uses) in ALLOWED.items():
            with self.subTest(name):
                self.assertEqual(firsts(begin(), tell(k, makes, out, uses), forget(k)), [0, 0, 0])

    def test_every_kind(self):
        calls = [begin()] + [tell(k) for k in range(8)] + [forget(k) for k in range(8)]
        self.assertEqual(firsts(*calls), [0] * 17)

    def test_tells_of_its_own_kind_alone(self):
        for k in range(8):
            others = [other for other in range(8) if other != k]
            calls = [begin(), tell(k, uses=[1] * 8)] + [forget(other) for other in others]
            self.assertEqual(firsts(*calls), [0, 0] + [-2] * 7)

    def test_keeps_what_is_told(self):
        for name, (k, makes, out, uses) in ALLOWED.items():
            with self.subTest(name):
                workshop = Workshop()
                self.assertEqual(workshop.tell(k, makes, out, uses), [0])
                self.assertEqual(workshop.told, {k: (makes, out, tuple(uses))})

    def test_again_takes_the_place_of_what_was_told(self):
        workshop = Workshop()
        workshop.tell(5, 2, 30, [1] * 8)
        workshop.tell(6, 3, 40, [2] * 8)
        self.assertEqual(workshop.tell(5, 7, 80, [9] * 8), [0])
        self.assertEqual(workshop.told, {5: (7, 80, (9,) * 8), 6: (3, 40, (2,) * 8)})

    def test_told_twice_is_forgotten_once(self):
        self.assertEqual(firsts(begin(), tell(5), tell(5, 9), forget(5), forget(5)), [0, 0, 0, 0, -2])

    def test_refused(self):
        for name, making in REFUSED.items():
            with self.subTest(name):
                self.assertEqual(firsts(begin(), tell(*making)), [0, -22])

    def test_refused_tells_nothing(self):
        for name, making in REFUSED.items():
            with self.subTest(name):
                calls = [begin(), tell(*making)] + [forget(k) for k in range(8)]
                self.assertEqual(firsts(*calls), [0, -22] + [-2] * 8)

    def test_refused_leaves_what_was_told(self):
        for name, making in REFUSED.items():
            with self.subTest(name):
                workshop = Workshop()
                for k in range(8):
                    workshop.tell(k, k + 1, k + 10, [k] * 8)
                before = dict(workshop.told)
                self.assertEqual(workshop.tell(*making), [-22])
                self.assertEqual(workshop.told, before)


class Forget(unittest.TestCase):
    def test_told(self):
        for k in range(8):
            self.assertEqual(firsts(begin(), tell(k), forget(k)), [0, 0, 0])

    def test_wrong_kind(self):
        for k in WRONG_KINDS:
            with self.subTest(k):
                self.assertEqual(firsts(begin(), forget(k)), [0, -22])

    def test_wrong_kind_where_all_are_told(self):
        told = [tell(k) for k in range(8)]
        for k in WRONG_KINDS:
            with self.subTest(k):
                calls = [begin()] + told + [forget(k)] + [forget(kind) for kind in range(8)]
                self.assertEqual(firsts(*calls), [0] * 9 + [-22] + [0] * 8)

    def test_never_told(self):
        for k in range(8):
            self.assertEqual(firsts(begin(), forget(k)), [0, -2])

    def test_used_but_never_told(self):
        self.assertEqual(firsts(begin(), tell(1, uses=[5] * 8), forget(2), forget(1)), [0, 0, -2, 0])

    def test_forgotten_already(self):
        self.assertEqual(firsts(begin(), tell(6), forget(6), forget(6), forget(6)), [0, 0, 0, -2, -2])

    def test_begun_anew_since(self):
        self.assertEqual(firsts(begin(), tell(6), begin(), forget(6)), [0, 0, 0, -2])

    def test_told_again_since(self):
        self.assertEqual(firsts(begin(), tell(6), forget(6), tell(6), forget(6)), [0] * 5)

    def test_forgets_its_own_kind_alone(self):
        workshop = Workshop()
        for k in range(8):
            workshop.tell(k, k + 1, k + 10, [k] * 8)
        others = dict(workshop.told)
        others.pop(3)
        self.assertEqual(workshop.forget(3), [0])
        self.assertEqual(workshop.told, others)

    def test_refused_changes_nothing(self):
        workshop = Workshop()
        workshop.tell(3, 4, 13, [3] * 8)
        for k, refusal in ((2, -2), (4, -2), (8, -22), (LARGEST, -22)):
            self.assertEqual(workshop.forget(k), [refusal])
            self.assertEqual(workshop.told, {3: (4, 13, (3,) * 8)})


if __name__ == "__main__":
    unittest.main()
