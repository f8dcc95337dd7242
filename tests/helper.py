"""Calls as lists of numbers, and their answers taken apart again."""

from trustvote.channels import answers

EDGE = 2 ** 62
TOP = 2 ** 64 - 1
NONE = -2 ** 63

# What look tells of a channel that is voted, and of one that is measured where nothing has come.
VOTED = [1, -1, NONE, 0, -1, NONE, 0]
UNHEARD = [0, -1, NONE, 0, -1, NONE, 0]


def begin():
    return [0]


def set_up(c, least=0, greatest=100, step=0, same=0, old=0, hold=0):
    return [1, c, least, greatest, step, same, old, hold]


def stand(c, s):
    return [2, c, s]


def vote(c, *members, tolerance=0):
    """Members are channels, or pairs of a channel and a weight."""
    row = []
    for member in members:
        row += [member, 1] if isinstance(member, int) else list(member)
    return [3, c, tolerance, len(row)] + row


def clear(c):
    return [4, c]


def came(c, t, value):
    return [5, c, t, value]


def now(c, t):
    return [6, c, t]


def out(c, t):
    return [7, c, t]


def look(c):
    return [8, c]


def set_all(*channels):
    return [set_up(c) for c in channels]


def joined(calls):
    return [number for call in calls for number in call]


def split(told):
    """The answers one by one, each a list."""
    parts = []
    place = 0
    while place < len(told):
        end = place + 1 + told[place]
        parts.append(told[place + 1:end])
        place = end
    return parts


def ask(*calls):
    """The answers to the calls: a number where it is one alone, else a list."""
    parts = split(answers(joined(calls)))
    if len(parts) != len(calls):
        raise AssertionError(f"{len(calls)} calls, {len(parts)} answers")
    return [part[0] if len(part) == 1 else part for part in parts]


def last(*calls):
    """The answer to the last of the calls."""
    return ask(*calls)[-1]
