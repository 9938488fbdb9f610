"""Calls written by name, and what `answers` gives back for them, taken apart again."""

from bridgestages.bridge import answers

LARGEST = 4294967295


def begins(pieces, props, at_once):
    return [0, pieces, props, at_once]


def rests(piece, base):
    return [1, piece, base]


def carries(stage):
    return [2, stage]


def falls(stage):
    return [3, stage]


def does(move):
    return [4, move]


def undo():
    return [5]


def ask(*calls):
    """The number that each call answers; fails where an answer isn't one number alone, behind a 1."""
    line = [number for call in calls for number in call]
    assert 1 <= len(calls) <= 80, len(calls)
    told = answers(line)
    assert type(told) is list, told
    assert all(type(number) is int for number in told), told
    assert told[0::2] == [1] * len(calls), told
    assert len(told) == 2 * len(calls), told
    return told[1::2]
