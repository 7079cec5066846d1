"""The word of the bench on each speech: held, out or open."""

HELD = "held"
OUT = "out"
OPEN = "open"


def words(bench):
    """A dict from each name, in the bench's order, to its word and the round of it."""
    found = {}
    turn = 1
    while bring_round(bench, found, turn):
        turn += 1
    return {name: found.get(name, (OPEN, 0)) for name in bench.names}


def bring_round(bench, found, turn):
    """Add the words of one round to those found; tell whether there were any."""
    ahead = len(found)
    # The held ones come first, so every out one that they rest on is of a round ahead.
    held_now = [name for name in bench.names if can_be_held(bench, found, name)]
    for name in held_now:
        found[name] = (HELD, turn)
    # The out ones are asked for only now, because this round's held ones count for them.
    out_now = [name for name in bench.names if can_be_out(bench, found, name)]
    for name in out_now:
        found[name] = (OUT, turn)
    return len(found) > ahead


def can_be_held(bench, found, name):
    """Whether it has no word yet, and all that speak against it are out."""
    if name in found:
        return False
    return all([has_word(found, speaker, OUT) for speaker in bench.speakers(name)])


def can_be_out(bench, found, name):
    """Whether it has no word yet, and one that is held speaks against it."""
    if name in found:
        return False
    return any([has_word(found, speaker, HELD) for speaker in bench.speakers(name)])


def has_word(found, name, word):
    """Whether this word has been found for this speech."""
    return name in found and found[name][0] == word
