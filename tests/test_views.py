"""Points 8, 9 and 10: views, and what must be taken off for a speech."""

import unittest
from copy import deepcopy
from itertools import permutations, product

from benchword.benches import Bench, without
from benchword.errors import NoSpeech
from benchword.views import closed, greatest, least_off, stands, views
from benchword.words import words
from tests.samples import (
    EIGHT, all_benches, every_set, known_benches, mixed_benches, refusal, rounds_of_sets)

STRAYS = ("nobody", "", "A", "aa", None, 1, True, ["a"], ("a",))
RING_OF_FOUR = Bench(
    ("d", "b", "c", "a"), (("a", "b"), ("b", "c"), ("c", "d"), ("d", "a")))

# Of each: a bench, its views, the greatest ones, the closed ones.
VIEWED = {
    "no speech": (Bench((), ()), [()], [()], [()]),
    "one": (Bench(("a",), ()), [(), ("a",)], [("a",)], [("a",)]),
    "one against itself": (Bench(("a",), (("a", "a"),)), [()], [()], []),
    "three without pairs": (
        Bench(("c", "a", "b"), ()),
        [(), ("a",), ("b",), ("c",), ("a", "b"), ("a", "c"), ("b", "c"), ("a", "b", "c")],
        [("a", "b", "c")], [("a", "b", "c")]),
    "one against another": (
        Bench(("a", "b"), (("a", "b"),)), [(), ("a",)], [("a",)], [("a",)]),
    "row of three": (
        Bench(("a", "b", "c"), (("a", "b"), ("b", "c"))),
        [(), ("a",), ("a", "c")], [("a", "c")], [("a", "c")]),
    "ring of two": (
        Bench(("b", "a"), (("a", "b"), ("b", "a"))),
        [(), ("a",), ("b",)], [("a",), ("b",)], [("a",), ("b",)]),
    "ring of three": (
        Bench(("a", "b", "c"), (("a", "b"), ("b", "c"), ("c", "a"))), [()], [()], []),
    "ring of four": (
        RING_OF_FOUR, [(), ("a", "c"), ("b", "d")],
        [("a", "c"), ("b", "d")], [("a", "c"), ("b", "d")]),
    "ring of five": (
        Bench("abcde", (("a", "b"), ("b", "c"), ("c", "d"), ("d", "e"), ("e", "a"))),
        [()], [()], []),
    "a ring of two beside a ring of three": (
        Bench(("a", "b", "x", "y", "z"),
              (("a", "b"), ("b", "a"), ("x", "y"), ("y", "z"), ("z", "x"))),
        [(), ("a",), ("b",)], [("a",), ("b",)], []),
    "a ring of two that speaks against a ring of three": (
        Bench(("a", "b", "x", "y", "z"),
              (("a", "b"), ("b", "a"), ("b", "x"), ("x", "y"), ("y", "z"), ("z", "x"))),
        [(), ("a",), ("b",), ("b", "y")], [("a",), ("b", "y")], [("b", "y")]),
    "greatest ones of unlike sizes": (
        Bench(("a", "b", "c"), (("a", "b"), ("b", "a"), ("a", "c"), ("c", "a"))),
        [(), ("a",), ("b",), ("c",), ("b", "c")],
        [("a",), ("b", "c")], [("a",), ("b", "c")]),
    "an answer that is itself against itself": (
        Bench(("a", "b", "c"), (("b", "a"), ("c", "b"), ("c", "c"))), [()], [()], []),
    "names rise as texts do": (
        Bench(("b", "ab", "aa", "a"), (("a", "b"), ("b", "a"))),
        [(), ("a",), ("aa",), ("ab",), ("b",), ("a", "aa"), ("a", "ab"), ("aa", "ab"),
         ("aa", "b"), ("ab", "b"), ("a", "aa", "ab"), ("aa", "ab", "b")],
        [("a", "aa", "ab"), ("aa", "ab", "b")], [("a", "aa", "ab"), ("aa", "ab", "b")]),
}

# Of each: a bench, a speech, and what must be taken off for it.
TAKEN = {
    "held at once": (Bench(("a", "b"), (("a", "b"),)), "a", ()),
    "held in a later round": (Bench(("a", "b", "c"), (("a", "b"), ("b", "c"))), "c", ()),
    "out": (Bench(("a", "b"), (("a", "b"),)), "b", ("a",)),
    "out, at the end of a row": (
        Bench(("a", "b", "c", "d"), (("a", "b"), ("b", "c"), ("c", "d"))), "d", ("a",)),
    "open in a ring of two": (Bench(("a", "b"), (("a", "b"), ("b", "a"))), "a", ("b",)),
    "open in a ring of three": (
        Bench(("a", "b", "c"), (("a", "b"), ("b", "c"), ("c", "a"))), "b", ("a",)),
    "open behind a ring": (
        Bench(("x", "y", "z"), (("x", "y"), ("y", "x"), ("x", "z"))), "z", ("x",)),
    "against itself": (Bench(("a",), (("a", "a"),)), "a", None),
    "against itself and out": (Bench(("a", "b"), (("a", "a"), ("b", "a"))), "a", None),
    "two against it": (
        Bench(("z", "b", "a"), (("b", "z"), ("a", "z"))), "z", ("a", "b")),
    "several smallest ones of one size": (
        Bench(("e", "d", "c", "b", "a"),
              (("b", "a"), ("c", "b"), ("d", "c"), ("e", "d"), ("a", "e"))), "a", ("b",)),
    "the least of those ones, not the one that speaks against it": (
        Bench(("a", "b", "c", "z"), (("b", "z"), ("a", "c"), ("c", "b"))), "z", ("a",)),
    "several smallest ones of two": (
        Bench(("top", "q", "p", "n", "m"),
              (("p", "top"), ("q", "top"), ("m", "n"), ("n", "p"))), "top", ("m", "q")),
    "a small set of great names ahead of a great set of small names": (
        Bench(("a", "b", "c", "z", "top"),
              (("z", "a"), ("z", "b"), ("z", "top"), ("a", "z"), ("b", "z"), ("c", "b"))),
        "top", ("z",)),
    "all others": (
        Bench(EIGHT, [(one, "a") for one in EIGHT if one != "a"]), "a",
        tuple(sorted(set(EIGHT) - {"a"}))),
}


def reckoned_stands(bench, chosen):
    """Point 8 once more, over sets of pairs."""
    chosen, pairs = set(chosen), set(bench.pairs)
    if any(one in chosen and other in chosen for one, other in pairs):
        return False
    strangers = {one for one, other in pairs if other in chosen}
    return strangers <= {other for one, other in pairs if one in chosen}


def reckoned_closed(bench, view):
    hit = {other for one, other in bench.pairs if one in view}
    return hit | set(view) == set(bench.names)


class Stands(unittest.TestCase):
    def check(self, bench, names, due):
        for handed in (list(names), tuple(names)):
            kept = deepcopy(handed)
            self.assertIs(stands(bench, handed), due, (bench.pairs, handed))
            self.assertEqual(handed, kept)

    def test_the_view_without_speeches(self):
        for bench in all_benches():
            self.check(bench, (), True)

    def test_single_speeches(self):
        bench = Bench(("free", "self", "hit", "x", "y"), (
            ("self", "self"), ("free", "hit"), ("x", "y"), ("y", "x")))
        for name, due in (
                ("free", True), ("self", False), ("hit", False), ("x", True), ("y", True)):
            self.check(bench, (name,), due)

    def test_a_pair_within(self):
        bench = Bench(("a", "b", "c"), (("a", "b"), ("b", "a")))
        self.check(bench, ("a", "b"), False)
        self.check(bench, ("a", "b", "c"), False)
        self.check(bench, ("a", "c"), True)
        self.check(bench, ("b", "c"), True)

    def test_a_speaker_that_is_not_answered(self):
        row = Bench(("a", "b", "c", "d", "e"), (("a", "b"), ("b", "c"), ("c", "d"), ("d", "e")))
        self.check(row, ("c",), False)
        self.check(row, ("a", "c"), True)
        self.check(row, ("a", "e"), False)
        self.check(row, ("c", "e"), False)
        self.check(row, ("e", "c", "a"), True)
        # One of two is answered, or both.
        two = Bench(("top", "x", "y", "p", "q"), (
            ("x", "top"), ("y", "top"), ("p", "x"), ("q", "y")))
        self.check(two, ("top", "p"), False)
        self.check(two, ("top", "q"), False)
        self.check(two, ("top", "p", "q"), True)

    def test_an_answer_by_the_one_itself(self):
        self.check(Bench(("a", "b"), (("a", "b"), ("b", "a"))), ("a",), True)

    def test_all_sets_of_names_by_another_reckoning(self):
        for bench in all_benches():
            for chosen in every_set(bench.names):
                self.check(bench, chosen, reckoned_stands(bench, chosen))

    def test_in_any_order_and_some_twice(self):
        for bench in known_benches() + [RING_OF_FOUR]:
            for chosen in every_set(bench.names):
                if len(chosen) <= 4:
                    due = reckoned_stands(bench, chosen)
                    for order in permutations(chosen):
                        self.check(bench, order, due)
                        self.check(bench, order + order[:2], due)
                        self.check(bench, order[-1:] + order + order, due)

    def test_no_such_speech(self):
        bench = Bench(("a", "b", "c"), (("a", "b"), ("c", "c")))
        for stray in STRAYS:
            for names in ((), ("a",), ("a", "b"), ("c", "b", "a"), ("a", "a")):
                for at in range(len(names) + 1):
                    handed = names[:at] + (stray,) + names[at:]
                    refusal(self, NoSpeech, lambda: stands(bench, handed))
                    refusal(self, NoSpeech, lambda: stands(bench, list(handed)))
            refusal(self, NoSpeech, lambda: stands(Bench((), ()), (stray,)))

    def test_the_bench_stays(self):
        names, pairs = RING_OF_FOUR.names, RING_OF_FOUR.pairs
        for chosen in every_set(names):
            stands(RING_OF_FOUR, chosen)
        self.assertEqual((RING_OF_FOUR.names, RING_OF_FOUR.pairs), (names, pairs))


class Views(unittest.TestCase):
    def test_in_their_order(self):
        for case, (bench, all_due, greatest_due, closed_due) in VIEWED.items():
            with self.subTest(case):
                self.assertEqual(views(bench), all_due)
                self.assertEqual(greatest(bench), greatest_due)
                self.assertEqual(closed(bench), closed_due)

    def test_the_order_of_the_bench_is_nothing_to_them(self):
        for bench, all_due, greatest_due, closed_due in VIEWED.values():
            turned = Bench(bench.names[::-1], bench.pairs[::-1])
            self.assertEqual(views(turned), all_due)
            self.assertEqual(greatest(turned), greatest_due)
            self.assertEqual(closed(turned), closed_due)

    def test_each_by_another_reckoning(self):
        for bench in all_benches():
            due = [view for view in every_set(bench.names) if reckoned_stands(bench, view)]
            sets = [frozenset(view) for view in due]
            self.assertEqual(views(bench), due)
            self.assertEqual(
                greatest(bench),
                [view for view in due if not any(set(view) < other for other in sets)])
            self.assertEqual(closed(bench), [view for view in due if reckoned_closed(bench, view)])

    def test_kinds(self):
        for bench in all_benches():
            for told in (views(bench), greatest(bench), closed(bench)):
                self.assertIs(type(told), list)
                for view in told:
                    self.assertIs(type(view), tuple)
                    self.assertEqual(list(view), sorted(set(view)))

    def test_eight_without_pairs(self):
        bench = Bench(EIGHT, ())
        self.assertEqual(len(views(bench)), 256)
        self.assertEqual(views(bench), every_set(EIGHT))
        self.assertEqual(greatest(bench), [tuple(sorted(EIGHT))])
        self.assertEqual(closed(bench), [tuple(sorted(EIGHT))])

    def test_eight_with_all_pairs(self):
        bench = Bench(EIGHT, list(product(EIGHT, EIGHT)))
        self.assertEqual(views(bench), [()])
        self.assertEqual(greatest(bench), [()])
        self.assertEqual(closed(bench), [])

    def test_rings(self):
        for many in range(2, 9):
            names = sorted(EIGHT)[:many]
            ring = Bench(names, list(zip(names, names[1:] + names[:1])))
            halves = [tuple(names[::2]), tuple(names[1::2])]
            due = halves if many % 2 == 0 else []
            self.assertEqual(views(ring), [()] + due)
            self.assertEqual(greatest(ring), due or [()])
            self.assertEqual(closed(ring), due)

    def test_each_held_speech_is_in_each_greatest_view(self):
        for bench in all_benches():
            held = {name for name, (word, _) in words(bench).items() if word == "held"}
            told = greatest(bench)
            self.assertTrue(told)
            for view in told:
                self.assertLessEqual(held, set(view))

    def test_the_same_again_after_the_first_was_emptied(self):
        for bench, *dues in VIEWED.values():
            names, pairs = bench.names, bench.pairs
            for ask, due in zip((views, greatest, closed), dues):
                first = ask(bench)
                first.clear()
                second = ask(bench)
                self.assertEqual(second, due)
                second.append(("nobody",))
                self.assertEqual(ask(bench), due)
                self.assertEqual(first, [])
            self.assertEqual((bench.names, bench.pairs), (names, pairs))


class LeastOff(unittest.TestCase):
    def held_without(self, bench, off, name):
        names = tuple(one for one in bench.names if one not in off)
        pairs = [(one, other) for one, other in bench.pairs if one in names and other in names]
        return rounds_of_sets(names, pairs)[name][0] == "held"

    def reckoned(self, bench, name):
        """Every set of others gone through by size; the first one that will do."""
        for off in every_set([one for one in bench.names if one != name]):
            if self.held_without(bench, off, name):
                return off
        return None

    def test_what_must_be_taken_off(self):
        for case, (bench, name, due) in TAKEN.items():
            with self.subTest(case):
                self.assertEqual(least_off(bench, name), due)
                turned = Bench(bench.names[::-1], bench.pairs[::-1])
                self.assertEqual(least_off(turned, name), due)

    def test_each_by_another_reckoning(self):
        for bench in all_benches():
            told = words(bench)
            for name in bench.names:
                off = least_off(bench, name)
                self.assertEqual(off, self.reckoned(bench, name), (bench.pairs, name))
                self.assertEqual(off is None, (name, name) in bench.pairs)
                self.assertEqual(off == (), told[name][0] == "held")
                self.assertIn(type(off), (tuple, type(None)))

    def test_the_speech_is_held_without_them(self):
        for bench in mixed_benches():
            for name in bench.names:
                off = least_off(bench, name)
                if off is not None:
                    self.assertEqual(words(without(bench, off))[name][0], "held")

    def test_no_such_speech(self):
        for bench in known_benches():
            for stray in STRAYS:
                if stray not in bench.names:
                    refusal(self, NoSpeech, lambda: least_off(bench, stray))

    def test_the_bench_stays(self):
        for bench, name, due in TAKEN.values():
            names, pairs = bench.names, bench.pairs
            self.assertEqual(least_off(bench, name), due)
            self.assertEqual(least_off(bench, name), due)
            self.assertEqual((bench.names, bench.pairs), (names, pairs))


if __name__ == "__main__":
    unittest.main()
