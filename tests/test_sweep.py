"""Promises 1 to 4 against the document's words, written down anew with sets, over many designs."""

import unittest

from tests.calling import LARGEST, ask, begins, carries, does, falls, rests, undo


def things_in(number):
    return {thing for thing in range(number.bit_length()) if number & 2 ** thing}


def number_of(things):
    return sum(2 ** thing for thing in things)


class ByTheWords:
    """Things are ("piece", i) and ("prop", j) here, so that nothing of the program's counting is shared."""

    def __init__(self):
        self.start(1, 0, 0)

    def start(self, pieces, props, at_once):
        self.order = [("piece", i) for i in range(pieces)] + [("prop", j) for j in range(props)]
        self.at_once = at_once
        self.sets = {thing: [] for thing in self.order if thing[0] == "piece"}
        self.there = set()

    def read(self, number):
        return {self.order[thing] for thing in things_in(number)}

    def write(self, things):
        return number_of(self.order.index(thing) for thing in things)

    def loose(self, stage):
        return {thing for thing in stage if thing[0] == "piece" and not any(one <= stage for one in self.sets[thing])}

    def answer(self, call):
        return getattr(self, ("begins", "rests", "carries", "falls", "does", "undo")[call[0]])(*call[1:])

    def begins(self, pieces, props, at_once):
        if pieces not in range(1, 7) or props not in range(3) or at_once not in range(props + 1):
            return -1
        self.start(pieces, props, at_once)
        return 0

    def rests(self, piece, base):
        if base >= 2 ** len(self.order):
            return -1
        if ("piece", piece) not in self.order:
            return -2
        if self.there:
            return -4
        sets = self.sets["piece", piece]
        if len(sets) == 4:
            return -5
        sets.append(self.read(base))
        return len(sets)

    def carries(self, stage):
        if stage >= 2 ** len(self.order):
            return -1
        return 0 if self.loose(self.read(stage)) else 1

    def falls(self, stage):
        if stage >= 2 ** len(self.order):
            return -1
        left = self.read(stage)
        while self.loose(left):
            left = left - self.loose(left)
        return self.write(left)

    def does(self, move):
        thing = ("piece", move) if move < 10 else ("prop", move % 10)
        if thing not in self.order or move >= 30:
            return -1
        if move >= 20:
            fits = thing in self.there
            behind = self.there - {thing}
        else:
            fits = thing not in self.there
            behind = self.there | {thing}
        props = [other for other in behind if other[0] == "prop"]
        if not fits or (10 <= move < 20 and len(props) > self.at_once) or self.loose(behind):
            return -6
        self.there = behind
        return self.write(behind)

    def undo(self):
        self.there = set()
        return 0


class Numbers:
    """The same numbers each time, without a random source."""

    def __init__(self, seed):
        self.seed = seed

    def below(self, most):
        self.seed = (self.seed * 6364136223846793005 + 1442695040888963407) % 2 ** 64
        return (self.seed >> 33) % most


def design_lines(numbers):
    pieces, props = 1 + numbers.below(6), numbers.below(3)
    line = [begins(pieces, props, numbers.below(props + 1))]
    for piece in range(pieces):
        for time in range(numbers.below(4)):
            base = numbers.below(2 ** (pieces + props)) & numbers.below(2 ** (pieces + props))
            line.append(rests(piece, base))
    return pieces, props, line


def any_call(numbers, pieces, props):
    things = pieces + props
    which = numbers.below(40)
    if which < 26:
        moves = [*range(pieces + 1), *range(10, 11 + props), *range(20, 21 + props), LARGEST]
        return does(moves[numbers.below(len(moves))])
    if which < 29:
        return rests(numbers.below(pieces + 1), numbers.below(2 ** things + 1))
    if which < 33:
        return carries(numbers.below(2 ** things + 1))
    if which < 37:
        return falls(numbers.below(2 ** things + 1))
    if which < 39:
        return undo()
    return begins(numbers.below(8), numbers.below(4), numbers.below(4))


class Sweep(unittest.TestCase):
    def assert_by_the_words(self, line):
        words = ByTheWords()
        self.assertEqual(ask(*line), [words.answer(call) for call in line], line)

    def test_every_stage_of_many_designs(self):
        numbers = Numbers(1)
        for time in range(150):
            pieces, props, line = design_lines(numbers)
            room = (80 - len(line)) // 2
            stages = range(2 ** (pieces + props) + 1)
            for start in range(0, len(stages), room):
                some = stages[start:start + room]
                self.assert_by_the_words(line + [ask_for(stage) for stage in some for ask_for in (carries, falls)])

    def test_calls_in_any_order(self):
        numbers = Numbers(2)
        for time in range(3000):
            pieces, props, line = design_lines(numbers)
            while len(line) < 80:
                line.append(any_call(numbers, pieces, props))
            self.assert_by_the_words(line)


if __name__ == "__main__":
    unittest.main()
