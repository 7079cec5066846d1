"""Points 4 and 5: the words of the bench."""

import unittest
from itertools import permutations

from benchword.benches import Bench
from benchword.words import words
from tests.samples import WORDED, known_benches, rounds_of_sets, small_benches


def one_by_one(bench, order, out_first):
    """Bring the words one at a time, each time the first that can be, in this order."""
    brought = {}
    kinds = ("out", "held") if out_first else ("held", "out")
    while True:
        able = [
            (kind, name) for name in order for kind in kinds
            if name not in brought and can_bring(bench, brought, kind, name)]
        if not able:
            return {name: brought.get(name, "open") for name in bench.names}
        kind, name = able[0]
        brought[name] = kind


def can_bring(bench, brought, kind, name):
    against = [brought.get(one) for one in bench.speakers(name)]
    if kind == "held":
        return all(word == "out" for word in against)
    return "held" in against


def orders(names):
    """All orders of a few names; of more the turned ones, both ways about."""
    if len(names) <= 4:
        return list(permutations(names))
    turned = [names[at:] + names[:at] for at in range(len(names))]
    return turned + [order[::-1] for order in turned]


class Words(unittest.TestCase):
    def test_words_and_rounds(self):
        for case, (names, pairs, due) in WORDED.items():
            with self.subTest(case):
                self.assertEqual(words(Bench(names, pairs)), due)

    def test_the_order_of_the_pairs_is_nothing_to_them(self):
        for names, pairs, due in WORDED.values():
            self.assertEqual(words(Bench(names, pairs[::-1])), due)

    def test_in_the_order_of_the_bench(self):
        for names, pairs, _ in WORDED.values():
            for order in orders(names)[:12]:
                told = words(Bench(order, pairs))
                self.assertEqual(list(told), list(order))
                self.assertEqual(told, words(Bench(names, pairs)))

    def test_kinds(self):
        for bench in known_benches():
            told = words(bench)
            self.assertIs(type(told), dict)
            for answer in told.values():
                self.assertIs(type(answer), tuple)
                self.assertEqual([type(part) for part in answer], [str, int])
                self.assertEqual(answer[1] == 0, answer[0] == "open")

    def test_each_small_bench_by_another_reckoning(self):
        for bench in small_benches():
            self.assertEqual(words(bench), rounds_of_sets(bench.names, bench.pairs), bench.pairs)

    def test_what_is_told_is_the_askers_own(self):
        for names, pairs, due in WORDED.values():
            bench = Bench(names, pairs)
            first = words(bench)
            first.clear()
            second = words(bench)
            self.assertEqual(second, due)
            second["more"] = ("held", 1)
            self.assertEqual(words(bench), due)
            self.assertEqual(first, {})
            self.assertEqual((bench.names, bench.pairs), (names, pairs))


class WhatTheWordsSay(unittest.TestCase):
    def check_word(self, bench, told, name):
        """What point 5 says of held, out and open ones."""
        against = [told[one][0] for one in bench.speakers(name)]
        word = told[name][0]
        if word == "held":
            self.assertEqual(set(against) - {"out"}, set())
        elif word == "out":
            self.assertIn("held", against)
        else:
            self.assertEqual(word, "open")
            self.assertNotIn("held", against)
            self.assertIn("open", against)

    def test_of_each_bench(self):
        for bench in known_benches() + list(small_benches()):
            told = words(bench)
            for name in bench.names:
                self.check_word(bench, told, name)

    def test_brought_one_by_one_in_several_orders(self):
        for bench in known_benches() + list(small_benches()):
            due = {name: answer[0] for name, answer in words(bench).items()}
            for order in orders(bench.names):
                self.assertEqual(one_by_one(bench, order, False), due)
                self.assertEqual(one_by_one(bench, order, True), due)


if __name__ == "__main__":
    unittest.main()
