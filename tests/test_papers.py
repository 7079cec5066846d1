"""Points 6 and 7: fair papers, and the paper of a held speech."""

import unittest
from copy import deepcopy
from itertools import product

from benchword.benches import Bench
from benchword.errors import NoSpeech, NotHeld
from benchword.papers import fair, paper
from benchword.words import words
from tests.samples import all_benches, known_benches, mixed_benches, refusal, rounds_of_sets

ROW_OF_FIVE = Bench(("a", "b", "c", "d", "e"), (("a", "b"), ("b", "c"), ("c", "d"), ("d", "e")))

# top is spoken against by u and v; against u speak p (round 1) and q (round 2), against v only q.
FORKED = Bench(
    ("top", "u", "v", "q", "r", "p"),
    (("v", "top"), ("u", "top"), ("q", "v"), ("p", "u"), ("q", "u"), ("p", "r"), ("r", "q")))
FORKED_PAPER = [
    ("p", ()), ("q", (("r", "p"),)), ("top", (("u", "p"), ("v", "q")))]

# Of each: a bench, a speech, and its paper as point 7 tells it.
PAPERS = {
    "one alone": (Bench(("a",), ()), "a", [("a", ())]),
    "others without pairs are not needed": (Bench(("c", "a", "b"), ()), "a", [("a", ())]),
    "first of a row": (ROW_OF_FIVE, "a", [("a", ())]),
    "middle of a row": (ROW_OF_FIVE, "c", [("a", ()), ("c", (("b", "a"),))]),
    "last of a row": (
        ROW_OF_FIVE, "e", [("a", ()), ("c", (("b", "a"),)), ("e", (("d", "c"),))]),
    "answerers of unlike rounds": (FORKED, "top", FORKED_PAPER),
    "an answerer's own paper": (FORKED, "q", FORKED_PAPER[:2]),
    "the least round goes ahead of the least name": (
        Bench(("a", "z", "x", "hit", "top"),
              (("z", "x"), ("x", "a"), ("a", "hit"), ("z", "hit"), ("hit", "top"))),
        "top", [("z", ()), ("top", (("hit", "z"),))]),
    "the least name of one round, whatever the bench's order": (
        Bench(("zz", "b", "ab", "hit", "top"),
              (("zz", "hit"), ("b", "hit"), ("ab", "hit"), ("hit", "top"))),
        "top", [("ab", ()), ("top", (("hit", "ab"),))]),
    "one answerer of several speakers": (
        Bench(("top", "y", "x", "w", "a"),
              (("y", "top"), ("w", "top"), ("x", "top"), ("a", "x"), ("a", "y"), ("a", "w"))),
        "top", [("a", ()), ("top", (("w", "a"), ("x", "a"), ("y", "a")))]),
    "rows of one round by names": (
        Bench(("top", "x", "y", "c", "b"), (("x", "top"), ("y", "top"), ("c", "x"), ("b", "y"))),
        "top", [("b", ()), ("c", ()), ("top", (("x", "c"), ("y", "b")))]),
    "a speaker against itself": (
        Bench(("self", "free", "last"), (("self", "self"), ("free", "self"), ("self", "last"))),
        "last", [("free", ()), ("last", (("self", "free"),))]),
    "an open one against the speaker": (
        Bench(("x", "y", "z", "hit", "top"),
              (("x", "y"), ("y", "x"), ("x", "hit"), ("z", "hit"), ("hit", "top"))),
        "top", [("z", ()), ("top", (("hit", "z"),))]),
    "an answerer that speaks against several, and is answered for": (
        Bench(("a", "b", "c", "d", "e", "f"),
              (("a", "b"), ("b", "c"), ("c", "d"), ("c", "e"), ("d", "f"), ("e", "f"))),
        "f", [("a", ()), ("c", (("b", "a"),)), ("f", (("d", "c"), ("e", "c")))]),
}

# What may be handed as a paper, or stand anywhere in one, and is not of the kind that is due.
ODD = (
    None, 0, 1, -7, 1.5, True, False, "", "a", "ab", "nobody", "A", (), [], ("a",), ["a"],
    ("a", "b"), ["a", "b"], ("a", "b", "a"), ("a", ()), ["a", []], [[]], ((),), [None, None],
    (None,), [["a", ["b"]]], [("a", "b", "c")], [[[["a"]]]], (("a", "b"), "c"))


def reckoned_fair(bench, rows):
    """Point 6 once more: the answers as a dict, and the names ahead as a set."""
    seen = set()
    if type(rows) not in (list, tuple):
        return False
    for row in rows:
        if type(row) not in (list, tuple) or len(row) != 2 or type(row[1]) not in (list, tuple):
            return False
        name, answers = row
        for pair in answers:
            if type(pair) not in (list, tuple) or [type(part) for part in pair] != [str, str]:
                return False
        if type(name) is not str or name not in bench.names:
            return False
        against = {one for one, other in bench.pairs if other == name}
        if [speaker for speaker, _ in answers] != sorted(against):
            return False
        for speaker, answerer in answers:
            if (answerer, speaker) not in bench.pairs or answerer not in seen:
                return False
        seen.add(name)
    return True


def reckoned_paper(bench, name):
    """Point 7 once more: the needed ones grow until none is added."""
    told = rounds_of_sets(bench.names, bench.pairs)
    places = {one: (told[one][1], one) for one in bench.names if told[one][0] == "held"}

    def answers(held):
        speakers = sorted(one for one, other in bench.pairs if other == held)
        return tuple(
            (speaker, sorted(places[one] for one in places if (one, speaker) in bench.pairs)[0][1])
            for speaker in speakers)

    needed = {name}
    while True:
        grown = needed | {answerer for one in needed for _, answerer in answers(one)}
        if grown == needed:
            return [(one, answers(one)) for _, one in sorted(places[one] for one in needed)]
        needed = grown


def held_ones(bench):
    return [name for name, (word, _) in words(bench).items() if word == "held"]


def as_lists(rows):
    return [[name, [[one, other] for one, other in answers]] for name, answers in rows]


def as_tuples(rows):
    return tuple((name, tuple((one, other) for one, other in answers)) for name, answers in rows)


def wrong_in_order(items):
    """The items with one left out, told twice, or put elsewhere."""
    for at in range(len(items)):
        rest = items[:at] + items[at + 1:]
        yield rest
        for put in range(len(items)):
            yield items[:put] + [items[at]] + items[put:]
            if put != at:
                yield rest[:put] + [items[at]] + rest[put:]


def wrong_papers(bench, rows):
    """The paper, as lists, with one thing wrong (now and then it stays fair)."""
    yield from wrong_in_order(rows)
    names = list(bench.names) + ["nobody"]
    for at, (name, answers) in enumerate(rows):
        changed = [[other, answers] for other in names]
        changed += [[name, wrong] for wrong in wrong_in_order(answers)]
        for place, (speaker, answerer) in enumerate(answers):
            pairs = [[other, answerer] for other in names] + [[speaker, other] for other in names]
            changed += [[name, answers[:place] + [pair] + answers[place + 1:]] for pair in pairs]
        for row in changed:
            yield rows[:at] + [row] + rows[at + 1:]


def odd_papers(rows):
    """The paper, as lists, with a thing of another kind at each place."""
    for thing in ODD:
        for at, (name, answers) in enumerate(rows):
            changed = [
                thing, [thing, answers], [name, thing], [name], [name, answers, thing],
                [answers, name], [name, answers + [thing]], [name, [thing] + answers],
                [[name], answers]]
            for place, (speaker, answerer) in enumerate(answers):
                pairs = [
                    thing, [thing, answerer], [speaker, thing], [speaker],
                    [speaker, answerer, thing], [[speaker], answerer], [speaker, [answerer]],
                    [[speaker, answerer]], speaker + answerer]
                changed += [
                    [name, answers[:place] + [pair] + answers[place + 1:]] for pair in pairs]
            for row in changed:
                yield rows[:at] + [row] + rows[at + 1:]
        yield rows + [thing]
        yield [thing] + rows


class FairCase(unittest.TestCase):
    def check(self, bench, rows, due):
        kept = deepcopy(rows)
        self.assertIs(fair(bench, rows), due, rows)
        self.assertEqual(rows, kept)
        self.assertEqual(repr(rows), repr(kept))


class Fair(FairCase):
    def test_without_rows(self):
        for bench in all_benches():
            self.check(bench, [], True)
            self.check(bench, (), True)

    def test_papers_of_held_speeches(self):
        for bench in all_benches():
            for name in held_ones(bench):
                told = paper(bench, name)
                for rows in (told, as_lists(told), as_tuples(told), list(as_tuples(told))):
                    self.check(bench, rows, True)

    def test_several_papers_one_behind_the_other(self):
        for bench in known_benches() + list(mixed_benches()):
            told = [paper(bench, name) for name in held_ones(bench)]
            self.check(bench, [row for rows in told for row in rows], True)
            self.check(bench, [row for rows in told[::-1] for row in rows], True)
            self.check(bench, tuple(row for rows in told + told for row in as_lists(rows)), True)

    def test_a_name_with_several_rows(self):
        self.check(FORKED, FORKED_PAPER + FORKED_PAPER, True)
        self.check(FORKED, FORKED_PAPER[:1] * 3 + FORKED_PAPER[1:], True)
        other = [("p", ()), ("q", (("r", "p"),)), ("top", (("u", "q"), ("v", "q")))]
        self.check(FORKED, other, True)
        self.check(FORKED, other + FORKED_PAPER[2:], True)

    def test_rows_in_another_order_and_rows_that_are_not_needed(self):
        bench = Bench(("top", "x", "y", "c", "b"), (
            ("x", "top"), ("y", "top"), ("c", "x"), ("b", "y")))
        last = ("top", (("x", "c"), ("y", "b")))
        self.check(bench, [("c", ()), ("b", ()), last], True)
        self.check(bench, [("b", ()), ("c", ()), ("b", ()), last, ("c", ())], True)
        self.check(ROW_OF_FIVE, [("a", ()), ("c", (("b", "a"),)), ("a", ())], True)

    def test_one_thing_wrong(self):
        first, second, last = FORKED_PAPER
        for rows in (
                [last], [second, last], [first, last], [second], [second, first, last],
                [first, last, second], [last, first, second], [last] + FORKED_PAPER,
                [first, second, ("top", ())],
                [first, second, ("top", (("u", "p"),))],
                [first, second, ("top", (("v", "q"),))],
                [first, second, ("top", (("v", "q"), ("u", "p")))],
                [first, second, ("top", (("u", "p"), ("u", "p"), ("v", "q")))],
                [first, second, ("top", (("u", "p"), ("u", "q"), ("v", "q")))],
                [first, second, ("top", (("u", "p"), ("v", "q"), ("v", "q")))],
                [first, second, ("top", (("r", "p"), ("u", "p"), ("v", "q")))],
                [first, second, ("top", (("r", "p"), ("v", "q")))],
                [first, second, ("top", (("u", "p"), ("v", "p")))],
                [first, second, ("top", (("u", "u"), ("v", "q")))],
                [first, second, ("top", (("u", "p"), ("v", "top")))],
                [first, second, ("top", (("u", "p"), ("v", "nobody")))],
                [first, second, ("top", (("nobody", "p"), ("v", "q")))],
                [first, second, ("nobody", ())],
                [first, ("q", (("p", "r"),))],
                [first, ("u", (("p", "p"), ("q", "p")))],
                [("p", (("r", "p"),))], [("p", (("p", "p"),))]):
            self.check(FORKED, rows, False)
            self.check(FORKED, as_lists(rows), False)
            self.check(FORKED, as_tuples(rows), False)

    def test_an_answerer_of_its_own_row_or_of_a_later_one(self):
        ring = Bench(("a", "b"), (("a", "b"), ("b", "a")))
        self.check(ring, [("a", (("b", "a"),))], False)
        self.check(ring, [("b", (("a", "b"),))], False)
        self.check(ring, [("a", (("b", "a"),)), ("a", (("b", "a"),))], False)
        self.check(ROW_OF_FIVE, [("c", (("b", "a"),)), ("a", ())], False)
        self.check(Bench(("a",), (("a", "a"),)), [("a", (("a", "a"),))], False)

    def test_each_wrong_paper_by_another_reckoning(self):
        for bench in all_benches():
            for name in held_ones(bench):
                for rows in wrong_papers(bench, as_lists(paper(bench, name))):
                    due = reckoned_fair(bench, rows)
                    self.assertIs(fair(bench, rows), due, rows)
                    self.assertIs(fair(bench, tuple(rows)), due, rows)

    def test_things_of_other_kinds_in_place_of_a_paper(self):
        for bench in known_benches() + [FORKED, ROW_OF_FIVE]:
            for thing in ODD:
                self.check(bench, thing, thing in ((), []))

    def test_things_of_other_kinds_at_each_place(self):
        cases = [(bench, rows) for bench, _, rows in PAPERS.values()]
        for bench in mixed_benches():
            cases += [(bench, paper(bench, name)) for name in held_ones(bench)]
        fair_ones = 0
        for bench, rows in cases:
            for wrong in odd_papers(as_lists(rows)):
                due = reckoned_fair(bench, wrong)
                self.check(bench, wrong, due)
                self.check(bench, tuple(wrong), due)
                fair_ones += due
        # A few stay fair, such as those in which one empty answer stands for another.
        self.assertGreater(fair_ones, 0)

    def test_texts_are_no_rows_pairs_or_answers(self):
        bench = Bench(("a", "b", "c"), (("a", "b"), ("b", "c")))
        self.check(bench, [("a", ()), ("c", (("b", "a"),))], True)
        self.check(bench, [("a", ()), ("c", ("ba",))], False)
        self.check(bench, [("a", "")], False)
        self.check(bench, ["a"], False)
        self.check(bench, "", False)
        self.check(bench, "a", False)

    def test_the_bench_stays(self):
        names, pairs = FORKED.names, FORKED.pairs
        fair(FORKED, as_lists(FORKED_PAPER))
        self.assertEqual((FORKED.names, FORKED.pairs), (names, pairs))


class WhatFairPapersSay(unittest.TestCase):
    def possible_rows(self, bench):
        """Rows of each speech with just its speakers, each with all that speak against it."""
        against = {
            name: sorted(one for one, other in bench.pairs if other == name)
            for name in bench.names}
        for name in bench.names:
            for answerers in product(*[against[speaker] for speaker in against[name]]):
                yield name, tuple(zip(against[name], answerers))

    def test_of_all_papers_of_three_rows(self):
        fair_ones, answering_ones = 0, 0
        for bench in all_benches():
            if len(bench.names) > 3 or len(bench.pairs) > 4:
                continue
            held = set(held_ones(bench))
            rows = list(self.possible_rows(bench))
            for many in range(4):
                for chosen in product(rows, repeat=many):
                    due = reckoned_fair(bench, chosen)
                    self.assertIs(fair(bench, chosen), due)
                    if due:
                        fair_ones += 1
                        answering_ones += any(answers for _, answers in chosen)
                        self.assertLessEqual({name for name, _ in chosen}, held)
        self.assertGreater(fair_ones, 1000)
        self.assertGreater(answering_ones, 100)

    def test_of_papers_that_were_made_wrong(self):
        for bench in all_benches():
            held = set(held_ones(bench))
            for name in held:
                for rows in wrong_papers(bench, as_lists(paper(bench, name))):
                    if fair(bench, rows):
                        self.assertLessEqual({one for one, _ in rows}, held)


class Paper(unittest.TestCase):
    def test_row_by_row(self):
        for case, (bench, name, due) in PAPERS.items():
            with self.subTest(case):
                self.assertEqual(paper(bench, name), due)

    def test_the_order_of_the_bench_and_of_its_pairs_is_nothing_to_it(self):
        for bench, name, due in PAPERS.values():
            turned = Bench(bench.names[::-1], bench.pairs[::-1])
            self.assertEqual(paper(turned, name), due)

    def test_kinds(self):
        for bench, name, _ in PAPERS.values():
            told = paper(bench, name)
            self.assertIs(type(told), list)
            for row in told:
                self.assertEqual([type(part) for part in row], [str, tuple])
                self.assertIs(type(row), tuple)
                for pair in row[1]:
                    self.assertIs(type(pair), tuple)
                    self.assertEqual([type(part) for part in pair], [str, str])

    def test_each_by_another_reckoning(self):
        for bench in all_benches():
            for name in held_ones(bench):
                told = paper(bench, name)
                self.assertEqual(told, reckoned_paper(bench, name))
                self.assertEqual(told[-1][0], name)
                self.assertIs(fair(bench, told), True)

    def test_the_same_again_after_the_first_was_emptied(self):
        for bench, name, due in PAPERS.values():
            names, pairs = bench.names, bench.pairs
            first = paper(bench, name)
            first.clear()
            second = paper(bench, name)
            self.assertEqual(second, due)
            second[0] = ("nobody", ())
            second.append(None)
            self.assertEqual(paper(bench, name), due)
            self.assertEqual(first, [])
            self.assertEqual((bench.names, bench.pairs), (names, pairs))

    def test_no_such_speech(self):
        for bench in known_benches() + [FORKED]:
            for stray in ("nobody", "", "A", "aa", None, 1, True, ["a"], ("a",)):
                refusal(self, NoSpeech, lambda: paper(bench, stray))

    def test_not_held(self):
        refusal(self, NotHeld, lambda: paper(ROW_OF_FIVE, "b"))
        refusal(self, NotHeld, lambda: paper(ROW_OF_FIVE, "d"))
        refusal(self, NotHeld, lambda: paper(FORKED, "u"))
        refusal(self, NotHeld, lambda: paper(Bench(("a",), (("a", "a"),)), "a"))
        for name in ("a", "b", "c"):
            ring = Bench(("a", "b", "c"), (("a", "b"), ("b", "c"), ("c", "a")))
            refusal(self, NotHeld, lambda: paper(ring, name))

    def test_each_out_and_each_open_one(self):
        for bench in all_benches():
            for name in set(bench.names) - set(held_ones(bench)):
                refusal(self, NotHeld, lambda: paper(bench, name))


if __name__ == "__main__":
    unittest.main()
