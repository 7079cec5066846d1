"""Points 1, 2, 3, 10 (first sentence) and 11: benches, and benches made of benches."""

import unittest
from copy import deepcopy
from itertools import product

from benchword.benches import Bench, beside, is_name, without
from benchword.errors import BadName, NoSpeech, TooMany, Twice
from benchword.words import words
from tests.samples import EIGHT, known_benches, refusal

NINE = EIGHT + ("nine",)
NO_NAMES = (
    "", "ninechars", "ninecharsandmore", "A", "aB", "Zoe", "a1", "1", "a b", " a", "a ", " ",
    "a\n", "\na", "\n", "a\t", "a-b", "a_b", "`", "{", "@", "[", "~", "\u00e4", "\u00df",
    "\u0131", "\uff41", 0, 1, -1, 1.5, None, True, False, b"a", [], ["a"], (), ("a",), {},
    {"a": 1}, {"a"}, object(), str)
NAMES = ("a", "z", "ab", "zebra", "sevenle", "eightlet", "aaaaaaaa", "zzzzzzzz")


class Names(unittest.TestCase):
    def test_texts_of_one_to_eight_small_letters(self):
        for length in range(12):
            self.assertIs(is_name("q" * length), 1 <= length <= 8)
        for name in NAMES:
            self.assertIs(is_name(name), True)

    def test_each_sign_alone_and_in_the_middle(self):
        for sign in [chr(code) for code in range(32, 127)] + ["\n"]:
            small = "a" <= sign <= "z"
            self.assertIs(is_name(sign), small, sign)
            self.assertIs(is_name("a" + sign + "b"), small, sign)
            self.assertIs(is_name("abcdefg" + sign), small, sign)

    def test_of_anything_else(self):
        for thing in NO_NAMES:
            self.assertIs(is_name(thing), False, repr(thing))


class BenchFields(unittest.TestCase):
    def check(self, names, pairs):
        """Hand names and pairs in as tuples and as lists; the fields are tuples each time."""
        for handed_names in (tuple(names), list(names)):
            for handed_pairs in (
                    tuple(tuple(pair) for pair in pairs), [tuple(pair) for pair in pairs],
                    tuple(list(pair) for pair in pairs), [list(pair) for pair in pairs]):
                kept_names, kept_pairs = deepcopy(handed_names), deepcopy(handed_pairs)
                bench = Bench(handed_names, handed_pairs)
                self.assertEqual(bench.names, tuple(names))
                self.assertEqual(bench.pairs, tuple(tuple(pair) for pair in pairs))
                self.assertIs(type(bench.names), tuple)
                self.assertIs(type(bench.pairs), tuple)
                self.assertEqual({type(pair) for pair in bench.pairs} - {tuple}, set())
                self.assertEqual(handed_names, kept_names)
                self.assertEqual(handed_pairs, kept_pairs)

    def test_no_speech(self):
        self.check((), ())

    def test_one_speech(self):
        self.check(("only",), ())
        self.check(("only",), (("only", "only"),))

    def test_eight_speeches_without_pairs(self):
        self.check(EIGHT, ())

    def test_eight_speeches_with_some_pairs_in_their_order(self):
        self.check(EIGHT, (("zebra", "a"), ("a", "zebra"), ("ida", "ida"), ("a", "hugo")))

    def test_eight_speeches_with_all_pairs(self):
        every = list(product(EIGHT, EIGHT))
        self.assertEqual(len(every), 64)
        self.check(EIGHT, every)
        self.check(EIGHT, every[::-1])

    def test_longest_names(self):
        self.check(("zzzzzzzz", "aaaaaaaa"), (("zzzzzzzz", "aaaaaaaa"),))

    def test_what_was_handed_in_is_changed_behind(self):
        names, pair = ["b", "a"], ["a", "b"]
        pairs = [pair, ("b", "b")]
        bench = Bench(names, pairs)
        names.append("c")
        names[0] = "zz"
        pair[0] = "b"
        pairs.pop()
        pairs.append(["b", "a"])
        self.assertEqual(bench.names, ("b", "a"))
        self.assertEqual(bench.pairs, (("a", "b"), ("b", "b")))
        self.assertEqual(bench.speakers("b"), ("a", "b"))
        self.assertEqual(words(bench), {"b": ("out", 1), "a": ("held", 1)})

    def test_two_benches_of_the_same_lists(self):
        names, pairs = ["a", "b"], [["a", "b"]]
        first = Bench(names, pairs)
        pairs.append(["b", "a"])
        second = Bench(names, pairs)
        self.assertEqual(first.pairs, (("a", "b"),))
        self.assertEqual(second.pairs, (("a", "b"), ("b", "a")))


class Speakers(unittest.TestCase):
    def test_each_rising(self):
        bench = Bench(("b", "ab", "a", "c"), (
            ("c", "b"), ("b", "b"), ("a", "b"), ("ab", "b"), ("b", "a"), ("c", "ab")))
        self.assertEqual(bench.speakers("b"), ("a", "ab", "b", "c"))
        self.assertEqual(bench.speakers("a"), ("b",))
        self.assertEqual(bench.speakers("ab"), ("c",))
        self.assertEqual(bench.speakers("c"), ())
        for name in bench.names:
            self.assertIs(type(bench.speakers(name)), tuple)

    def test_all_against_all(self):
        bench = Bench(EIGHT, list(product(EIGHT, EIGHT)))
        for name in EIGHT:
            self.assertEqual(bench.speakers(name), tuple(sorted(EIGHT)))

    def test_any_other_name_is_refused(self):
        bench = Bench(("a", "ab"), (("a", "ab"),))
        for name in ("b", "abc", "zebra") + NO_NAMES:
            refusal(self, NoSpeech, lambda: bench.speakers(name))
        refusal(self, NoSpeech, lambda: Bench((), ()).speakers("a"))

    def test_the_bench_stays(self):
        bench = Bench(("b", "a"), (("b", "a"), ("a", "a")))
        self.assertEqual(bench.speakers("a"), bench.speakers("a"))
        self.assertEqual(bench.names, ("b", "a"))
        self.assertEqual(bench.pairs, (("b", "a"), ("a", "a")))


class Refusals(unittest.TestCase):
    def refused(self, due, names, pairs):
        refusal(self, due, lambda: Bench(tuple(names), tuple(pairs)))
        refusal(self, due, lambda: Bench(list(names), [list(pair) for pair in pairs]))

    def test_more_than_eight(self):
        self.refused(TooMany, NINE, ())
        self.refused(TooMany, [chr(97 + at) for at in range(20)], ())

    def test_too_many_ahead_of_all(self):
        self.refused(TooMany, EIGHT + ("A",), ())
        self.refused(TooMany, ("",) + EIGHT, ())
        self.refused(TooMany, ("a",) * 9, ())
        self.refused(TooMany, (None,) * 12, ())
        self.refused(TooMany, NINE, (("a", "nobody"),))
        self.refused(TooMany, NINE, (("a", "a"), ("a", "a")))
        self.refused(TooMany, ("a",) * 9, (("a", "nobody"), ("a", "a"), ("a", "a")))

    def test_what_is_no_name(self):
        for thing in NO_NAMES:
            self.refused(BadName, (thing,), ())
            self.refused(BadName, ("a", thing, "b"), ())
            self.refused(BadName, ("a", "b", thing), ())
            self.refused(BadName, EIGHT[:7] + (thing,), ())

    def test_a_name_that_is_there_ahead(self):
        self.refused(BadName, ("a", "a"), ())
        self.refused(BadName, ("a", "b", "c", "a"), ())
        self.refused(BadName, EIGHT[:7] + (EIGHT[0],), ())

    def test_a_bad_name_ahead_of_any_pair(self):
        self.refused(BadName, ("a", "a"), (("a", "b"),))
        self.refused(BadName, ("a", ""), (("a", "a"), ("a", "a")))
        self.refused(BadName, ("a", "B"), (("B", "a"),))
        self.refused(BadName, ("a", "b", None), (("a", "nobody"), ("a", "b"), ("a", "b")))

    def test_a_pair_with_no_speech(self):
        for stray in ("c", "abc", "", "A"):
            self.refused(NoSpeech, ("a", "b"), ((stray, "a"),))
            self.refused(NoSpeech, ("a", "b"), (("a", stray),))
            self.refused(NoSpeech, ("a", "b"), ((stray, stray),))
            self.refused(NoSpeech, ("a", "b"), (("a", "b"), ("b", "a"), ("b", stray)))
        self.refused(NoSpeech, (), (("a", "a"),))

    def test_a_pair_twice(self):
        self.refused(Twice, ("a", "b"), (("a", "b"), ("a", "b")))
        self.refused(Twice, ("a", "b"), (("a", "a"), ("b", "a"), ("a", "a")))
        self.refused(Twice, EIGHT, list(product(EIGHT, EIGHT)) + [EIGHT[:2]])

    def test_a_pair_twice_as_list_and_as_tuple(self):
        refusal(self, Twice, lambda: Bench(("a", "b"), (["a", "b"], ("a", "b"))))
        refusal(self, Twice, lambda: Bench(("a", "b"), [("a", "b"), ["a", "b"]]))

    def test_the_pair_the_other_way_about_is_another(self):
        self.assertEqual(
            Bench(("a", "b"), (("a", "b"), ("b", "a"))).pairs, (("a", "b"), ("b", "a")))

    def test_pair_by_pair(self):
        self.refused(NoSpeech, ("a", "b"), (("a", "c"), ("a", "b"), ("a", "b")))
        self.refused(NoSpeech, ("a", "b"), (("a", "b"), ("c", "a"), ("a", "b")))
        self.refused(Twice, ("a", "b"), (("a", "b"), ("a", "b"), ("a", "c")))
        self.refused(Twice, ("a", "b"), (("a", "a"), ("b", "a"), ("a", "a"), ("c", "c")))
        self.refused(NoSpeech, ("a", "b"), (("a", "c"), ("a", "c")))

    def test_what_is_refused_stays(self):
        names, pairs = ["a", "b"], [["a", "b"], ["a", "b"]]
        refusal(self, Twice, lambda: Bench(names, pairs))
        self.assertEqual((names, pairs), (["a", "b"], [["a", "b"], ["a", "b"]]))


class Without(unittest.TestCase):
    def setUp(self):
        self.names = ("d", "b", "a", "c")
        self.pairs = (
            ("c", "a"), ("a", "b"), ("d", "d"), ("b", "a"), ("a", "c"), ("d", "b"), ("b", "b"))
        self.bench = Bench(self.names, self.pairs)

    def check(self, off, names, pairs):
        for handed in (tuple(off), list(off)):
            kept = deepcopy(handed)
            less = without(self.bench, handed)
            self.assertIs(type(less), Bench)
            self.assertEqual((less.names, less.pairs), (names, pairs))
            self.assertEqual(handed, kept)
            self.assertEqual((self.bench.names, self.bench.pairs), (self.names, self.pairs))

    def test_nothing_left_out(self):
        self.check((), self.names, self.pairs)

    def test_some(self):
        self.check(("b",), ("d", "a", "c"), (("c", "a"), ("d", "d"), ("a", "c")))
        self.check(("a", "d"), ("b", "c"), (("b", "b"),))
        self.check(("d", "a"), ("b", "c"), (("b", "b"),))
        self.check(("a", "b", "c"), ("d",), (("d", "d"),))
        self.check(("c", "d"), ("b", "a"), (("a", "b"), ("b", "a"), ("b", "b")))

    def test_all(self):
        self.check(("a", "b", "c", "d"), (), ())

    def test_some_told_twice(self):
        self.check(("d", "a", "d", "a", "a"), ("b", "c"), (("b", "b"),))
        self.check(("a", "b", "c", "d") * 3, (), ())

    def test_no_such_speech(self):
        for stray in ("e", "ab", "", "A", None, 1, ["a"], ("a",)):
            refusal(self, NoSpeech, lambda: without(self.bench, (stray,)))
            refusal(self, NoSpeech, lambda: without(self.bench, ["a", stray]))
            refusal(self, NoSpeech, lambda: without(self.bench, ("a", "a", stray, "b")))
        refusal(self, NoSpeech, lambda: without(Bench((), ()), ("a",)))
        self.assertEqual((self.bench.names, self.bench.pairs), (self.names, self.pairs))

    def test_what_was_handed_in_is_changed_behind(self):
        off = ["a"]
        less = without(self.bench, off)
        off.append("b")
        off[0] = "c"
        self.assertEqual(less.names, ("d", "b", "c"))
        self.assertEqual(less.pairs, (("d", "d"), ("d", "b"), ("b", "b")))


class Beside(unittest.TestCase):
    def check(self, one, other):
        kept = (one.names, one.pairs, other.names, other.pairs)
        both = beside(one, other)
        self.assertIs(type(both), Bench)
        self.assertEqual(both.names, one.names + other.names)
        self.assertEqual(both.pairs, one.pairs + other.pairs)
        self.assertEqual(words(both), {**words(one), **words(other)})
        self.assertEqual(list(words(both)), list(one.names + other.names))
        self.assertEqual((one.names, one.pairs, other.names, other.pairs), kept)

    def test_first_then_second(self):
        one = Bench(("d", "c"), (("d", "c"), ("c", "c")))
        other = Bench(("b", "a"), (("b", "a"), ("a", "b")))
        self.check(one, other)
        self.check(other, one)
        both = beside(one, other)
        self.assertEqual(both.names, ("d", "c", "b", "a"))
        self.assertEqual(both.pairs, (("d", "c"), ("c", "c"), ("b", "a"), ("a", "b")))

    def test_a_bench_without_speeches(self):
        none = Bench((), ())
        some = Bench(EIGHT, (("a", "c"), ("c", "c"), ("c", "zebra")))
        self.check(none, some)
        self.check(some, none)
        self.check(none, none)

    def test_eight_in_all(self):
        one = Bench(EIGHT[:3], (("a", "zebra"), ("zebra", "hugo")))
        self.check(one, Bench(EIGHT[3:], (("c", "c"), ("c", "mm"), ("ida", "mm"))))

    def test_the_words_of_known_benches(self):
        guests = (
            Bench(("guest",), ()), Bench(("guest",), (("guest", "guest"),)),
            Bench(("oo", "nn", "mm"), (("mm", "nn"), ("nn", "oo"))))
        for bench in known_benches():
            for guest in guests:
                if len(bench.names) + len(guest.names) <= 8:
                    self.check(bench, guest)
                    self.check(guest, bench)

    def test_more_than_eight_in_all(self):
        eight, one = Bench(EIGHT, ()), Bench(("one",), ())
        refusal(self, TooMany, lambda: beside(eight, one))
        refusal(self, TooMany, lambda: beside(one, eight))
        self.assertEqual((eight.names, one.names), (EIGHT, ("one",)))

    def test_more_than_eight_ahead_of_a_name_in_both(self):
        eight = Bench(EIGHT, (("a", "c"),))
        refusal(self, TooMany, lambda: beside(eight, eight))
        refusal(self, TooMany, lambda: beside(eight, Bench(("a",), ())))

    def test_a_name_in_both(self):
        one = Bench(("a", "b"), (("a", "b"),))
        refusal(self, BadName, lambda: beside(one, Bench(("c", "b"), ())))
        refusal(self, BadName, lambda: beside(one, one))
        refusal(self, BadName, lambda: beside(Bench(EIGHT[:4], ()), Bench(EIGHT[3:7], ())))
        self.assertEqual((one.names, one.pairs), (("a", "b"), (("a", "b"),)))


if __name__ == "__main__":
    unittest.main()
