"""Calls written by name, and what `answers` gives back for them, taken apart again."""

from bridgestages.bridge import answers

LARGEST = 4294967295


def begins(pieces, props, at_once):
    return [0, pieces, props, at_once]


def rests(piece, base):
    return [1, piece, base]


def carries(stage):
    return [2, stage]


def falls(stage):
    return [3, stage]


def does(move):
    return [4, move]


def undo():
    return [5]


def fewest():
    return [6]


def plan():
    return [7]


def far():
    return [8]


def needed():
    return [9]


def spare():
    return [10]


def state():
    return [11]


# How many lists each call answers besides its number; those that aren't here answer none.
LISTS = {7: 1, 8: 1, 10: 1, 11: 2}


def parted(call, row):
    """The number that's answered, or where lists come with it a tuple of it and them."""
    lists = []
    place = 1
    for _ in range(0 if row[0] < 0 else LISTS.get(call[0], 0)):
        length = row[place]
        lists.append(row[place + 1:place + 1 + length])
        assert len(lists[-1]) == length, row
        place += 1 + length
    assert place == len(row), row
    return (row[0], *lists) if lists else row[0]


def ask(*calls):
    """What each call answers: its number alone, or a tuple of it and its lists; fails where the lengths are off."""
    line = [number for call in calls for number in call]
    assert 1 <= len(calls) <= 80, len(calls)
    told = answers(line)
    assert type(told) is list, told
    assert all(type(number) is int for number in told), told
    apart = []
    place = 0
    for call in calls:
        length = told[place]
        row = told[place + 1:place + 1 + length]
        assert len(row) == length >= 1, told
        apart.append(parted(call, row))
        place += 1 + length
    assert place == len(told), told
    return apart
