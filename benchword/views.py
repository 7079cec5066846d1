"""Views: sets of speeches that can be held together; and what must be taken off for a speech."""

from itertools import combinations

from benchword.benches import check_speech, without
from benchword.words import HELD, words


def stands(bench, names):
    """Whether these speeches can be held together; of names in any order, some perhaps twice."""
    for name in names:
        check_speech(bench.names, name)
    return is_view(speakers_of_each(bench), names)


def views(bench):
    """All views that stand, by size, of one size rising."""
    speakers = speakers_of_each(bench)
    return [view for view in all_sets(bench.names) if is_view(speakers, view)]


def greatest(bench):
    """The views that lie in no other one that stands."""
    found = []
    # The larger ones come first, so what lies in another one lies in one of those found.
    for view in views(bench)[::-1]:
        if not any([lies_in(view, other) for other in found]):
            found.append(view)
    return found[::-1]


def closed(bench):
    """The views that speak against each speech outside of them."""
    speakers = speakers_of_each(bench)
    return [view for view in views(bench) if is_closed(speakers, view)]


def least_off(bench, name):
    """The smallest set of others without which the speech is held; None where there is none."""
    check_speech(bench.names, name)
    others = [one for one in bench.names if one != name]
    for names in all_sets(others):
        if is_held(without(bench, names), name):
            return names
    return None


def all_sets(names):
    """Each set of these names as a rising tuple, by size, of one size rising."""
    rising = sorted(names)
    return [chosen for size in range(len(rising) + 1) for chosen in combinations(rising, size)]


def speakers_of_each(bench):
    """A dict from each speech to those that speak against it."""
    return {name: bench.speakers(name) for name in bench.names}


def is_view(speakers, names):
    """Whether none of these is against one of these, and each that is finds one against it."""
    if any([is_hit(speakers, name, names) for name in names]):
        return False
    against = [one for name in names for one in speakers[name]]
    return all([is_hit(speakers, one, names) for one in against])


def is_closed(speakers, view):
    """Whether each speech outside of the view is spoken against by one in it."""
    return all([name in view or is_hit(speakers, name, view) for name in speakers])


def is_hit(speakers, name, names):
    """Whether one of these names speaks against this one."""
    return any([one in names for one in speakers[name]])


def lies_in(view, other):
    """Whether all of the view is in the other one."""
    return all([name in other for name in view])


def is_held(bench, name):
    """Whether the word on this speech is that it is held."""
    return words(bench)[name][0] == HELD
