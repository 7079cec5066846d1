"""The names and arguments of the interface, each in the file that lists it."""

import inspect
import unittest

from benchword import benches, notes, papers, views, words

LISTED = (
    (benches, "is_name", ["thing"]),
    (benches, "Bench", ["names", "pairs"]),
    (benches, "without", ["bench", "names"]),
    (benches, "beside", ["one", "other"]),
    (words, "words", ["bench"]),
    (papers, "paper", ["bench", "name"]),
    (papers, "fair", ["bench", "paper"]),
    (views, "stands", ["bench", "names"]),
    (views, "views", ["bench"]),
    (views, "greatest", ["bench"]),
    (views, "closed", ["bench"]),
    (views, "least_off", ["bench", "name"]),
    (notes, "written", ["bench"]),
    (notes, "read", ["text"]),
)


class Interface(unittest.TestCase):
    def test_names_and_arguments(self):
        for module, name, arguments in LISTED:
            with self.subTest(name):
                thing = getattr(module, name)
                self.assertEqual(thing.__module__, module.__name__)
                self.assertEqual(list(inspect.signature(thing).parameters), arguments)

    def test_methods_stand_in_the_class_itself(self):
        self.assertIn("speakers", vars(benches.Bench))
        self.assertEqual(
            list(inspect.signature(benches.Bench.speakers).parameters), ["self", "name"])

    def test_arguments_by_their_names(self):
        bench = benches.Bench(names=["a", "b"], pairs=[("a", "b")])
        self.assertEqual(bench.speakers(name="b"), ("a",))
        self.assertEqual(benches.without(bench=bench, names=("a",)).names, ("b",))
        self.assertEqual(
            benches.beside(one=bench, other=benches.Bench((), ())).names, ("a", "b"))
        self.assertEqual(words.words(bench=bench)["a"], ("held", 1))
        self.assertIs(benches.is_name(thing="a"), True)
        self.assertEqual(papers.paper(bench=bench, name="a"), [("a", ())])
        self.assertIs(papers.fair(bench=bench, paper=[("a", ())]), True)
        self.assertIs(views.stands(bench=bench, names=["a"]), True)
        self.assertEqual(views.views(bench=bench), [(), ("a",)])
        self.assertEqual(views.greatest(bench=bench), [("a",)])
        self.assertEqual(views.closed(bench=bench), [("a",)])
        self.assertEqual(views.least_off(bench=bench, name="b"), ("a",))
        text = notes.written(bench=bench)
        self.assertEqual(notes.read(text=text).pairs, (("a", "b"),))


if __name__ == "__main__":
    unittest.main()
