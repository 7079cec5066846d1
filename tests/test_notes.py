"""Point 12: benches written as texts, and read from them."""

import unittest
from itertools import product

from benchword.benches import Bench
from benchword.errors import BadName, NoSpeech, NoText, TooMany, Twice
from benchword.notes import read, written
from tests.samples import EIGHT, all_benches, refusal

# Of each: names, pairs, and how that bench is written.
WRITTEN = {
    "no speech": ((), (), ""),
    "one": (("a",), (), "speech a\n"),
    "one against itself": (("a",), (("a", "a"),), "speech a\nagainst a a\n"),
    "in their orders": (
        ("zebra", "b", "a"), (("b", "zebra"), ("a", "a"), ("a", "b"), ("b", "a")),
        "speech zebra\nspeech b\nspeech a\n"
        "against b zebra\nagainst a a\nagainst a b\nagainst b a\n"),
    "names that are words of the form": (
        ("speech", "against"), (("against", "speech"), ("speech", "speech")),
        "speech speech\nspeech against\nagainst against speech\nagainst speech speech\n"),
    "eight without pairs": (
        EIGHT, (),
        "speech hugo\nspeech a\nspeech zebra\nspeech bob\nspeech eightlet\nspeech c\n"
        "speech mm\nspeech ida\n"),
}

TWO = "speech a\nspeech b\nagainst a b\n"

NO_TEXTS = (
    # no last line end
    "a", " ", "speech a", "speech a\nspeech b", "speech a\nagainst a a", TWO[:-1], TWO + " ",
    TWO + "speech c", "speech", "against",
    # an empty row
    "\n", "\n\n", "\n" + TWO, TWO + "\n", "speech a\n\nspeech b\n", "speech a\n\nagainst a a\n",
    # an unknown word
    "a\n", "speak a\n", "speeches a\n", "Speech a\n", "SPEECH a\n", "spee a\n", "names a\n",
    "xspeech a\n", "speecha\n", "speech,a\n", "a speech\n", TWO + "beside a b\n",
    TWO + "Against b a\n", TWO + "b against a\n", TWO + "# b\n", "against: a b\n",
    # a word more or less
    "speech\n", "speech a b\n", "speech a against b\n", "speech a speech b\n", "against\n",
    TWO + "against\n", TWO + "against b\n", TWO + "against b a a\n", TWO + "against b a against\n",
    "against a\n", "against a b c\n",
    # two blanks, a blank at the row's beginning or end, or one alone
    "speech  a\n", "speech a \n", "speech a  \n", " speech a\n", "  speech a\n", "speech \n",
    "speech  \n", " \n", "  \n", TWO + "against  b a\n", TWO + "against b  a\n",
    TWO + "against b a \n", TWO + " against b a\n", TWO + "against b \n",
    TWO + "against  b\n", TWO + "against  \n", TWO + "against \n",
    # a pair's row ahead of a speech's row
    "against a a\nspeech a\n", "speech a\nagainst a a\nspeech b\n", TWO + "speech c\n",
    "speech a\nagainst a b\nspeech b\n", TWO + TWO,
    # a sign that belongs to no form
    "speech\ta\n", "speech a\tb\n", "speech a\t\n", "\tspeech a\n", "speech a\r\n", "speech a\r",
    "speech \ra\n", "speech a\x0bspeech b\n", "speech a\x0c\n", "speech a\x1c\n", "speech a\x85\n",
    "speech a\u2028speech b\n", "speech\u00a0a\n", "speech \u00e4\n", "speech a\x00\n",
    "speech \x7f\n", TWO + "against\tb a\n", TWO + "against b\ta\n", TWO + "against b a\r\n",
    TWO + "against b \u00e4\n", TWO + "\r\n",
)


class Written(unittest.TestCase):
    def test_rows(self):
        for case, (names, pairs, due) in WRITTEN.items():
            with self.subTest(case):
                for handed in (pairs, [list(pair) for pair in pairs]):
                    bench = Bench(names, handed)
                    text = written(bench)
                    self.assertEqual(text, due)
                    self.assertIs(type(text), str)
                    self.assertEqual(written(bench), due)
                    self.assertEqual((bench.names, bench.pairs), (names, pairs))

    def test_eight_with_all_pairs(self):
        every = list(product(EIGHT, EIGHT))
        rows = [f"speech {name}" for name in EIGHT]
        rows += [f"against {one} {other}" for one, other in every]
        self.assertEqual(written(Bench(EIGHT, every)), "\n".join(rows) + "\n")
        self.assertEqual(len(rows), 72)


class Read(unittest.TestCase):
    def test_what_is_written_is_read_as_the_same(self):
        for names, pairs, text in WRITTEN.values():
            bench = read(text)
            self.assertIs(type(bench), Bench)
            self.assertEqual((bench.names, bench.pairs), (names, pairs))
            self.assertIs(type(bench.names), tuple)
            self.assertIs(type(bench.pairs), tuple)
            self.assertEqual({type(pair) for pair in bench.pairs} - {tuple}, set())

    def test_each_bench_is_read_the_same_and_written_alike(self):
        for bench in all_benches():
            text = written(bench)
            again = read(text)
            self.assertEqual((again.names, again.pairs), (bench.names, bench.pairs))
            self.assertEqual(written(again), text)

    def test_the_text_without_signs(self):
        bench = read("")
        self.assertEqual((bench.names, bench.pairs), ((), ()))

    def test_two_benches_of_one_text(self):
        first, second = read(TWO), read(TWO)
        self.assertIsNot(first, second)
        self.assertEqual((first.names, first.pairs), (second.names, second.pairs))


class Refusals(unittest.TestCase):
    def refused(self, due, *rows):
        refusal(self, due, lambda: read("".join(row + "\n" for row in rows)))

    def test_what_is_not_written_so(self):
        for text in NO_TEXTS:
            with self.subTest(repr(text)):
                refusal(self, NoText, lambda: read(text))

    def test_each_sign_in_a_word(self):
        for code in list(range(0, 300)):
            sign = chr(code)
            if sign in " \n" or not "!" <= sign <= "~":
                due = NoText
            elif "a" <= sign <= "z":
                continue
            else:
                due = BadName
            refusal(self, due, lambda: read(f"speech x{sign}y\n"))
            refusal(self, due, lambda: read(f"speech {sign}\n"))
            due = NoSpeech if due is BadName else NoText
            refusal(self, due, lambda: read(f"speech x\nagainst x x{sign}y\n"))
            refusal(self, due, lambda: read(f"speech x\nagainst {sign} x\n"))

    def test_a_line_end_left_out_or_told_twice(self):
        for bench in all_benches()[:60]:
            text = written(bench)
            for at in range(len(text)):
                if text[at] == "\n":
                    refusal(self, NoText, lambda: read(text[:at] + text[at + 1:]))
                if text[at] in " \n":
                    refusal(self, NoText, lambda: read(text[:at] + text[at] + text[at:]))
                    refusal(self, NoText, lambda: read(text[:at] + " " + text[at:]))

    def test_no_text_ahead_of_no_bench(self):
        rows = [f"speech {name}" for name in EIGHT + EIGHT]
        self.refused(NoText, *rows, "")
        self.refused(NoText, *rows, "speech a b")
        self.refused(NoText, "speech A", "speech a", "speech a ", "against a b")
        self.refused(NoText, "speech a", "against a b", "against")
        self.refused(NoText, "speech a", "against a a", "against a a", "speech b")
        refusal(self, NoText, lambda: read("speech A\nspeech A"))

    def test_too_many(self):
        rows = [f"speech {name}" for name in EIGHT]
        self.refused(TooMany, *rows, "speech nine")
        self.refused(TooMany, *rows, "speech a")
        self.refused(TooMany, *rows, "speech A!", "against a nobody")
        self.refused(TooMany, *["speech !"] * 9)
        self.refused(TooMany, *["speech a"] * 500, *["against a a"] * 500)

    def test_bad_names(self):
        for word in ("A", "ninechars", "a1", "7", "!", "~", "a-b", "#", "{a}", "z" * 300):
            self.refused(BadName, f"speech {word}")
            self.refused(BadName, "speech a", f"speech {word}")
            self.refused(BadName, f"speech {word}", "against a b", "against a b")
        self.refused(BadName, "speech a", "speech a")
        self.refused(BadName, "speech a", "speech b", "speech a", "against c c")

    def test_no_such_speech(self):
        self.refused(NoSpeech, "against a b")
        self.refused(NoSpeech, "against ! ~")
        for word in ("c", "A", "ninechars", "!", "speech", "ab"):
            self.refused(NoSpeech, "speech a", "speech b", f"against a {word}")
            self.refused(NoSpeech, "speech a", "speech b", f"against {word} a")
            self.refused(NoSpeech, "speech a", f"against a {word}", "against a a", "against a a")

    def test_twice(self):
        self.refused(Twice, "speech a", "against a a", "against a a")
        self.refused(
            Twice, "speech a", "speech b", "against a b", "against b a", "against a b",
            "against a c")


if __name__ == "__main__":
    unittest.main()
