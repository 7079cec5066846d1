"""Benches: speeches by their names, and which of them speaks against which."""

from benchword.errors import BadName, NoSpeech, TooMany, Twice

LETTERS = "abcdefghijklmnopqrstuvwxyz"
LONGEST_NAME = 8
MOST_SPEECHES = 8


def is_name(thing):
    """Whether this is a text of 1 to 8 small letters a to z."""
    if not isinstance(thing, str):
        return False
    if not 1 <= len(thing) <= LONGEST_NAME:
        return False
    return all([sign in LETTERS for sign in thing])


class Bench:
    """Speeches in an order, and pairs (one, other): one speaks against the other."""

    def __init__(self, names, pairs):
        self.names = checked_names(names)
        self.pairs = checked_pairs(pairs, self.names)

    def speakers(self, name):
        """The speeches that speak against this one, rising."""
        check_speech(self.names, name)
        return tuple(sorted([one for one, other in self.pairs if other == name]))


def checked_names(names):
    """The names as a tuple of its own; refuses too many, then the first bad one."""
    if len(names) > MOST_SPEECHES:
        raise TooMany(f"{len(names)} speeches, but a bench has at most {MOST_SPEECHES}")
    told = []
    for at, thing in enumerate(names):
        if not is_name(thing):
            raise BadName(f"names[{at}] is not a text of 1 to {LONGEST_NAME} small letters")
        if thing in told:
            raise BadName(f"names[{at}] is there ahead: {thing}")
        told.append(thing)
    return tuple(told)


def checked_pairs(pairs, names):
    """The pairs as a tuple of tuples of its own; refuses the first wrong one."""
    told = []
    for one, other in pairs:
        check_speech(names, one)
        check_speech(names, other)
        if (one, other) in told:
            raise Twice(f"{one} against {other} is there ahead")
        told.append((one, other))
    return tuple(told)


def check_speech(names, name):
    """Refuse what is none of these names."""
    # The names are a tuple, no dict: so even a list can be looked for in them.
    if name not in names:
        raise NoSpeech("this bench has no speech of that name")


def without(bench, names):
    """The bench of the other speeches, and of the pairs of these, in their orders."""
    for name in names:
        check_speech(bench.names, name)
    others = [name for name in bench.names if name not in names]
    pairs = [(one, other) for one, other in bench.pairs if one in others and other in others]
    return Bench(others, pairs)


def beside(one, other):
    """The bench of the speeches and pairs of the first, then those of the second."""
    return Bench(one.names + other.names, one.pairs + other.pairs)
