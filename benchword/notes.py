"""Benches written as texts, and read from them."""

from benchword.benches import Bench
from benchword.errors import NoText

SPEECH = "speech"
AGAINST = "against"


def written(bench):
    """The bench in rows: one for each speech, then one for each pair."""
    speeches = [f"{SPEECH} {name}\n" for name in bench.names]
    pairs = [f"{AGAINST} {one} {other}\n" for one, other in bench.pairs]
    return "".join(speeches + pairs)


def read(text):
    """The bench that is written so; refuses a text of another form ahead of what is no bench."""
    names = []
    pairs = []
    for at, row in enumerate(rows_of(text), start=1):
        parts = row.split(" ")
        if is_form(parts, SPEECH, 1) and not pairs:
            names.append(parts[1])
        elif is_form(parts, AGAINST, 2):
            pairs.append((parts[1], parts[2]))
        else:
            raise NoText(f"row {at} is not written as a speech or a pair is there")
    return Bench(names, pairs)


def rows_of(text):
    """The rows of a text without their line ends; refuses a last one that has none."""
    rows = text.split("\n")
    if rows.pop() != "":
        raise NoText("the last row has no line end")
    return rows


def is_form(parts, first, many):
    """Whether these are the first word and so many other words behind it."""
    if parts[0] != first or len(parts) != many + 1:
        return False
    return all([is_word(part) for part in parts])


def is_word(part):
    """Whether this is of one sign or more, none of them a blank or a sign of no text."""
    return part != "" and all(["!" <= sign <= "~" for sign in part])
