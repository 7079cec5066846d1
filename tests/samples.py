"""Benches that several tests look at, and helpers for them."""

from itertools import product

from benchword.benches import Bench
from benchword.errors import BadName, BenchError, NoSpeech, NoText, NotHeld, TooMany, Twice

EIGHT = ("hugo", "a", "zebra", "bob", "eightlet", "c", "mm", "ida")
REFUSALS = (TooMany, BadName, NoSpeech, Twice, NotHeld, NoText)

# Of each: names, pairs, and the words that the document requires.
WORDED = {
    "no speech": ((), (), {}),
    "one without pairs": (("a",), (), {"a": ("held", 1)}),
    "several without pairs": (
        ("c", "a", "b"), (),
        {"c": ("held", 1), "a": ("held", 1), "b": ("held", 1)}),
    "against itself": (("a",), (("a", "a"),), {"a": ("open", 0)}),
    "one against another": (
        ("a", "b"), (("a", "b"),), {"a": ("held", 1), "b": ("out", 1)}),
    "one against another that is told first": (
        ("b", "a"), (("a", "b"),), {"b": ("out", 1), "a": ("held", 1)}),
    "row": (
        ("a", "b", "c", "d", "e"),
        (("a", "b"), ("b", "c"), ("c", "d"), ("d", "e")),
        {"a": ("held", 1), "b": ("out", 1), "c": ("held", 2), "d": ("out", 2),
         "e": ("held", 3)}),
    "row of eight, told from its end": (
        ("h", "g", "f", "e", "d", "c", "b", "a"),
        (("g", "h"), ("f", "g"), ("e", "f"), ("d", "e"), ("c", "d"), ("b", "c"), ("a", "b")),
        {"h": ("out", 4), "g": ("held", 4), "f": ("out", 3), "e": ("held", 3),
         "d": ("out", 2), "c": ("held", 2), "b": ("out", 1), "a": ("held", 1)}),
    "ring of two": (
        ("a", "b"), (("a", "b"), ("b", "a")), {"a": ("open", 0), "b": ("open", 0)}),
    "ring of three": (
        ("a", "b", "c"), (("a", "b"), ("b", "c"), ("c", "a")),
        {"a": ("open", 0), "b": ("open", 0), "c": ("open", 0)}),
    "ring of four": (
        ("d", "b", "c", "a"), (("a", "b"), ("b", "c"), ("c", "d"), ("d", "a")),
        {"d": ("open", 0), "b": ("open", 0), "c": ("open", 0), "a": ("open", 0)}),
    "ring of three with a held one against it": (
        ("a", "b", "c", "z"), (("a", "b"), ("b", "c"), ("c", "a"), ("z", "a")),
        {"a": ("out", 1), "b": ("held", 2), "c": ("out", 2), "z": ("held", 1)}),
    "against itself, and a held one against it": (
        ("self", "free", "last"), (("self", "self"), ("free", "self"), ("self", "last")),
        {"self": ("out", 1), "free": ("held", 1), "last": ("held", 2)}),
    "against itself and another": (
        ("self", "last"), (("self", "self"), ("self", "last")),
        {"self": ("open", 0), "last": ("open", 0)}),
    "a held and an open one against it": (
        ("x", "y", "free", "hit"),
        (("x", "y"), ("y", "x"), ("x", "hit"), ("free", "hit")),
        {"x": ("open", 0), "y": ("open", 0), "free": ("held", 1), "hit": ("out", 1)}),
    "an out and an open one against it": (
        ("x", "y", "free", "hit", "mixed"),
        (("x", "y"), ("y", "x"), ("free", "hit"), ("hit", "mixed"), ("x", "mixed")),
        {"x": ("open", 0), "y": ("open", 0), "free": ("held", 1), "hit": ("out", 1),
         "mixed": ("open", 0)}),
    "out ones of several rounds against it": (
        ("top", "a", "b", "c", "d"),
        (("a", "b"), ("b", "c"), ("c", "d"), ("b", "top"), ("d", "top")),
        {"top": ("held", 3), "a": ("held", 1), "b": ("out", 1), "c": ("held", 2),
         "d": ("out", 2)}),
    "held ones of several rounds against it": (
        ("low", "a", "b", "c"), (("a", "b"), ("b", "c"), ("c", "low"), ("a", "low")),
        {"low": ("out", 1), "a": ("held", 1), "b": ("out", 1), "c": ("held", 2)}),
    "out ones that speak against held ones and against one another": (
        ("a", "b", "c"), (("a", "b"), ("a", "c"), ("b", "c"), ("c", "b"), ("b", "b")),
        {"a": ("held", 1), "b": ("out", 1), "c": ("out", 1)}),
    "a held one beside a ring": (
        ("ra", "rb", "free", "hit"), (("ra", "rb"), ("rb", "ra"), ("free", "hit")),
        {"ra": ("open", 0), "rb": ("open", 0), "free": ("held", 1), "hit": ("out", 1)}),
    "all against all": (
        EIGHT, tuple(product(EIGHT, EIGHT)), {name: ("open", 0) for name in EIGHT}),
}


def small_benches():
    """Every bench of the speeches b and a, and of c, a and b, with their pairs in one order."""
    for names in (("b", "a"), ("c", "a", "b")):
        every = list(product(names, names))
        for chosen in product((False, True), repeat=len(every)):
            yield Bench(names, [pair for pair, taken in zip(every, chosen) if taken])


def mixed_benches():
    """Benches of four to eight speeches, with few and with many pairs, the same ones each time."""
    state = 7
    for many in (4, 5, 6, 7, 8):
        for weight in (1, 2, 3, 5):
            names, pairs = EIGHT[:many], []
            for pair in product(names, names):
                state = (state * 1103515245 + 12345) % 2 ** 31
                if state // 65536 % 16 < weight and (pair[0] != pair[1] or state % 3 == 0):
                    pairs.append(pair)
            yield Bench(names, pairs)


def rows_of_eight():
    """Benches of eight speeches that ask for much: no pair, all pairs, rows, rings and couples."""
    every = list(product(EIGHT, EIGHT))
    following = list(zip(EIGHT, EIGHT[1:]))
    couples = list(zip(EIGHT[::2], EIGHT[1::2]))
    return [
        Bench(EIGHT, ()), Bench(EIGHT, every), Bench(EIGHT, every[1:]),
        Bench(EIGHT, [(one, other) for one, other in every if one != other]),
        Bench(EIGHT, following), Bench(EIGHT, following + [(EIGHT[-1], EIGHT[0])]),
        Bench(EIGHT, couples + [(other, one) for one, other in couples])]


def all_benches():
    """All the benches of this file, as a list."""
    return known_benches() + list(small_benches()) + list(mixed_benches()) + rows_of_eight()


def every_set(names):
    """Each set of these names as a rising tuple, by size, of one size rising."""
    found = []
    for taken in product((False, True), repeat=len(names)):
        found.append(tuple(sorted(name for name, is_in in zip(names, taken) if is_in)))
    return sorted(found, key=lambda chosen: (len(chosen), chosen))


def known_benches():
    """The benches of the table above."""
    return [Bench(names, pairs) for names, pairs, _ in WORDED.values()]


def rounds_of_sets(names, pairs):
    """Point 4 word for word, over sets, as another reckoning of the words."""
    against = {name: {one for one, other in pairs if other == name} for name in names}
    held, out, told = set(), set(), {}
    for turn in range(1, len(names) + 2):
        open_ones = [name for name in names if name not in told]
        new_held = {name for name in open_ones if against[name] <= out}
        held |= new_held
        new_out = {name for name in open_ones if name not in held and against[name] & held}
        out |= new_out
        told.update({name: ("held", turn) for name in new_held})
        told.update({name: ("out", turn) for name in new_out})
    return {name: told.get(name, ("open", 0)) for name in names}


def refusal(case, due, call):
    """Check that the call is refused with just this class."""
    with case.assertRaises(BenchError) as caught:
        call()
    case.assertIs(type(caught.exception), due)
    case.assertIsInstance(caught.exception, ValueError)
