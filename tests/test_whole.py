"""Points 1, 5 and 9 over the whole program, and benches of eight speeches without delay."""

import unittest
from time import perf_counter

from benchword.benches import Bench, beside, without
from benchword.notes import read, written
from benchword.papers import fair, paper
from benchword.views import closed, greatest, least_off, stands, views
from benchword.words import words
from tests.samples import EIGHT, all_benches, known_benches, mixed_benches, rows_of_eight

# No test needs to know how fast a machine is: a slow one is well below this, a delay above.
LONGEST = 3


def answers(bench):
    """What every function tells of this bench, each a thing of its own."""
    told = [words(bench), views(bench), greatest(bench), closed(bench), written(bench)]
    for name in bench.names:
        told += [bench.speakers(name), least_off(bench, name), stands(bench, [name, name])]
        less = without(bench, [name])
        told += [(less.names, less.pairs), words(less)]
        if words(bench)[name][0] == "held":
            told += [paper(bench, name), fair(bench, paper(bench, name))]
    return told


def empty(thing):
    """Take all out of what was told, where that can be done."""
    if isinstance(thing, (list, dict)):
        thing.clear()


def spoil(thing):
    """Change what was told, where that can be done."""
    if isinstance(thing, list):
        thing.append(("nobody",))
        thing.reverse()
    elif isinstance(thing, dict):
        for name in thing:
            thing[name] = ("out", 99)
        thing["nobody"] = ("held", 1)


class NothingHangsOnAnother(unittest.TestCase):
    def test_what_is_told_is_the_askers_own(self):
        for bench in known_benches() + list(mixed_benches()):
            names, pairs = bench.names, bench.pairs
            due = answers(bench)
            for change in (empty, spoil):
                for thing in answers(bench):
                    change(thing)
                self.assertEqual(answers(bench), due)
            self.assertEqual((bench.names, bench.pairs), (names, pairs))

    def test_later_questions_do_not_change_what_was_told(self):
        for bench in known_benches():
            first, kept = answers(bench), answers(bench)
            for other in known_benches():
                answers(other)
            self.assertEqual(first, kept)

    def test_what_was_handed_in_is_changed_behind(self):
        for bench in known_benches():
            names, pairs = list(bench.names), [list(pair) for pair in bench.pairs]
            handed = Bench(names, pairs)
            names.append("nobody")
            names.reverse()
            for pair in pairs:
                pair.reverse()
            pairs.clear()
            self.assertEqual(answers(handed), answers(bench))

    def test_a_bench_without_some_beside_them(self):
        for bench in known_benches():
            for name in bench.names:
                others = [one for one in bench.names if one != name]
                both = beside(without(bench, others), without(bench, [name]))
                self.assertEqual(both.names, (name,) + tuple(others))

    def test_two_benches_alike_are_answered_alike(self):
        for bench in mixed_benches():
            self.assertEqual(answers(read(written(bench))), answers(bench))


class WordsPapersAndViews(unittest.TestCase):
    def test_they_tell_the_same_of_the_held_ones(self):
        for bench in all_benches():
            held = tuple(sorted(
                name for name, (word, _) in words(bench).items() if word == "held"))
            self.assertIs(stands(bench, held), True)
            self.assertIn(held, views(bench))
            for view in greatest(bench):
                self.assertLessEqual(set(held), set(view))
            for view in closed(bench):
                self.assertLessEqual(set(held), set(view))
                self.assertIn(view, greatest(bench))
            rows = [row for name in held for row in paper(bench, name)]
            self.assertIs(fair(bench, rows), True)
            self.assertEqual({name for name, _ in rows}, set(held))

    def test_an_out_speech_is_in_no_view(self):
        for bench in all_benches():
            out = {name for name, (word, _) in words(bench).items() if word == "out"}
            for view in views(bench):
                self.assertEqual(out & set(view), set())


class WithoutDelay(unittest.TestCase):
    def check_soon(self, ask):
        start = perf_counter()
        ask()
        self.assertLess(perf_counter() - start, LONGEST)

    def test_benches_of_eight_speeches(self):
        for bench in rows_of_eight():
            self.assertEqual(bench.names, EIGHT)
            for ask in (words, views, greatest, closed, written, answers):
                self.check_soon(lambda: ask(bench))
            self.check_soon(lambda: read(written(bench)))
            self.check_soon(lambda: [least_off(bench, name) for name in EIGHT])

    def test_long_papers_and_long_lists_of_names(self):
        bench = rows_of_eight()[0]
        rows = [(name, ()) for name in EIGHT] * 2000
        self.check_soon(lambda: self.assertIs(fair(bench, rows), True))
        self.check_soon(lambda: self.assertIs(stands(bench, EIGHT * 2000), True))


if __name__ == "__main__":
    unittest.main()
