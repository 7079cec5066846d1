"""Papers: rows that show, one behind the other, why speeches are held."""

from benchword.benches import check_speech
from benchword.errors import NotHeld
from benchword.words import HELD, words


def paper(bench, name):
    """The paper of a held speech: a row of each that is needed for it, by rounds and names."""
    check_speech(bench.names, name)
    turns = held_turns(bench)
    if name not in turns:
        raise NotHeld(f"{name} is not held")
    needed = needed_answers(bench, turns, name)
    order = sorted([(turns[one], one) for one in needed])
    return [(one, needed[one]) for turn, one in order]


def held_turns(bench):
    """A dict from each held speech to the round in which it came to be held."""
    return {name: turn for name, (word, turn) in words(bench).items() if word == HELD}


def needed_answers(bench, turns, name):
    """A dict from this speech, and from each that is needed for it, to its answers."""
    found = {}
    asked = [name]
    while asked:
        one = asked.pop()
        if one not in found:
            found[one] = answers_of(bench, turns, one)
            asked.extend([answerer for speaker, answerer in found[one]])
    return found


def answers_of(bench, turns, name):
    """A pair of each that speaks against this speech, rising, and of the one that answers it."""
    return tuple([(one, answerer_of(bench, turns, one)) for one in bench.speakers(name)])


def answerer_of(bench, turns, speaker):
    """Of the held ones against this speaker the one of the least round, then the least name."""
    # There is one: what speaks against a held speech is out, so a held one is against it.
    turn, answerer = min([(turns[one], one) for one in bench.speakers(speaker) if one in turns])
    return answerer


def fair(bench, paper):
    """Whether each row answers just those that speak against its name, by names of rows ahead."""
    if not is_series(paper):
        return False
    ahead = []
    for row in paper:
        if not is_two(row) or not is_fair_row(bench, row[0], row[1], ahead):
            return False
        ahead.append(row[0])
    return True


def is_fair_row(bench, name, answers, ahead):
    """Whether these answers are fair for this name, where these names have rows ahead."""
    if name not in bench.names or not is_series(answers):
        return False
    if not all([is_two(pair) for pair in answers]):
        return False
    if [pair[0] for pair in answers] != list(bench.speakers(name)):
        return False
    return all([is_answered(bench, speaker, answerer, ahead) for speaker, answerer in answers])


def is_answered(bench, speaker, answerer, ahead):
    """Whether the answerer speaks against the speaker, and has a row ahead."""
    return answerer in bench.speakers(speaker) and answerer in ahead


def is_two(thing):
    """Whether this is a tuple or a list of two things."""
    return is_series(thing) and len(thing) == 2


def is_series(thing):
    """Whether this is a tuple or a list; a text is neither, though it could be gone through."""
    return isinstance(thing, (list, tuple))
