"""Texts of webs, rows, chains and rounds: written, and read again."""

from levelhues.base.checks import ascends, is_integer
from levelhues.base.webs import Web, check_web
from levelhues.errors import InvalidOperation, InvalidRow, ParseError

_DIGITS = "0123456789"
_EMPTY = "-"
_TIE_SIGN = "-"


def write_web(web):
    """Return the text of a web."""
    check_web(web)
    return "\n".join([f"web {web.size}", *[f"tie {one} {other}" for one, other in web.ties]])


def write_row(row):
    """Return the text of a row."""
    if not isinstance(row, tuple) or not row or not all([_is_number(hue) for hue in row]):
        raise InvalidRow("no tuple with an integer of at least 0, or more")
    return " ".join(["row", *[str(hue) for hue in row]])


def write_chain(chain):
    """Return the text of a chain."""
    if not isinstance(chain, tuple) or not chain or not all([_is_pair(step) for step in chain]):
        raise InvalidOperation("no tuple with a pair of integers of at least 0, or more")
    return "\n".join([f"move {place} {hue}" for place, hue in chain])


def write_rounds(rounds):
    """Return the text of rounds."""
    if not isinstance(rounds, tuple) or not rounds or not all([_are_ties(part) for part in rounds]):
        raise InvalidOperation("no tuple with an ascending tuple of pairs of integers, or more")
    return "\n".join([_round_line(part) for part in rounds])


def read_web(text):
    """Return the web with this text, of at most ten places."""
    lines = _lines(text)
    size = _numbers(lines[0], "web", 1)
    if size is None:
        raise ParseError(0)
    ties = []
    for at in range(1, len(lines)):
        tie = _numbers(lines[at], "tie", 2)
        if tie is None or not _are_ties((*ties[-1:], tie)):
            raise ParseError(at)
        ties.append(tie)
    # The class alone says which sizes and ties are right: webs that were made of others can be too wide for it.
    return Web(size[0], tuple(ties))


def read_row(text):
    """Return the row with this text."""
    lines = _lines(text)
    row = _numbers(lines[0], "row", lines[0].count(" "))
    if not row:
        raise ParseError(0)
    if len(lines) > 1:
        raise ParseError(1)
    return row


def read_chain(text):
    """Return the chain with this text."""
    return _all_read([_numbers(line, "move", 2) for line in _lines(text)])


def read_rounds(text):
    """Return the rounds with this text."""
    return _all_read([_round_of(line) for line in _lines(text)])


def _is_number(value):
    return is_integer(value) and value >= 0


def _is_pair(value):
    return isinstance(value, tuple) and len(value) == 2 and all([_is_number(item) for item in value])


def _are_ties(value):
    """Tell whether the value is an ascending tuple of pairs, the lesser place first."""
    if not isinstance(value, tuple) or not all([_is_pair(tie) and tie[0] < tie[1] for tie in value]):
        return False
    return ascends(value)


def _round_line(part):
    words = [f"{one}{_TIE_SIGN}{other}" for one, other in part]
    return " ".join(["round", *words]) if words else f"round {_EMPTY}"


def _lines(text):
    if not isinstance(text, str):
        raise ParseError(None)
    return text.split("\n")


def _all_read(values):
    """Return the tuple of what the lines tell, if each of them tells something."""
    for at, value in enumerate(values):
        if value is None:
            raise ParseError(at)
    return tuple(values)


def _number(word):
    """Return the number that a word tells, or None if it tells none."""
    if not word or not all([sign in _DIGITS for sign in word]) or word[0] == "0" and word != "0":
        return None
    return int(word)


def _number_row(words):
    """Return the tuple of the numbers that words tell, or None if one of them tells none."""
    numbers = tuple([_number(word) for word in words])
    return None if None in numbers else numbers


def _numbers(line, head, many):
    """Return the tuple of so many numbers behind the first word of a line, or None if it is no such line."""
    words = line.split(" ")
    return _number_row(words[1:]) if words[0] == head and len(words) == many + 1 else None


def _round_of(line):
    """Return the round that a line tells, or None if it tells none."""
    words = line.split(" ")
    if words[0] != "round" or len(words) < 2:
        return None
    if words[1:] == [_EMPTY]:
        return ()
    ties = tuple([_number_row(word.split(_TIE_SIGN)) for word in words[1:]])
    return ties if _are_ties(ties) else None
