"""Promises 1 to 8 and state against the document's words, written down anew with sets, over many designs."""

import unittest

from tests.calling import (
    LARGEST, ask, begins, carries, does, falls, far, fewest, needed, plan, rests, spare, state, undo,
)

CALLS = ("begins", "rests", "carries", "falls", "does", "undo", "fewest", "plan", "far", "needed", "spare", "state")


def things_in(number):
    return {thing for thing in range(number.bit_length()) if number & 2 ** thing}


def number_of(things):
    return sum(2 ** thing for thing in things)


class ByTheWords:
    """Things are ("piece", i) and ("prop", j) here, so that nothing of the program's counting is shared."""

    def __init__(self):
        self.start(1, 0, 0)

    def start(self, pieces, props, at_once):
        self.order = [("piece", i) for i in range(pieces)] + [("prop", j) for j in range(props)]
        self.at_once = at_once
        self.sets = {thing: [] for thing in self.order if thing[0] == "piece"}
        self.there = frozenset()

    def read(self, number):
        return frozenset(self.order[thing] for thing in things_in(number))

    def write(self, things):
        return number_of(self.order.index(thing) for thing in things)

    def loose(self, stage):
        return {thing for thing in stage if thing[0] == "piece" and not any(one <= stage for one in self.sets[thing])}

    def end(self):
        return frozenset(self.sets)

    def behind(self, stage, kind, thing, at_once):
        """The stage behind the move, or None where it can't be done."""
        behind = stage - {thing} if kind == 2 else stage | {thing}
        props = [other for other in behind if other[0] == "prop"]
        if behind == stage or (kind == 1 and len(props) > at_once) or self.loose(behind):
            return None
        return behind

    def plans(self, start, at_once):
        """The plan to each stage to which moves lead: all ways of so many moves are held against one another."""
        moves = [(number, 0, ("piece", number)) for number in range(len(self.sets))]
        for _, prop in self.order[len(self.sets):]:
            moves += [(10 + prop, 1, ("prop", prop)), (20 + prop, 2, ("prop", prop))]
        plans = {}
        newest = {start: []}
        while newest:
            plans.update(newest)
            found = {}
            for stage, done in newest.items():
                for number, kind, thing in moves:
                    behind = self.behind(stage, kind, thing, at_once)
                    if behind is not None and behind not in plans:
                        found[behind] = min(found.get(behind, done + [number]), done + [number])
            newest = found
        return plans

    def answer(self, call):
        return getattr(self, CALLS[call[0]])(*call[1:])

    def begins(self, pieces, props, at_once):
        if pieces not in range(1, 7) or props not in range(3) or at_once not in range(props + 1):
            return -1
        self.start(pieces, props, at_once)
        return 0

    def rests(self, piece, base):
        if base >= 2 ** len(self.order):
            return -1
        if ("piece", piece) not in self.order:
            return -2
        if self.there:
            return -4
        sets = self.sets["piece", piece]
        if len(sets) == 4:
            return -5
        sets.append(self.read(base))
        return len(sets)

    def carries(self, stage):
        if stage >= 2 ** len(self.order):
            return -1
        return 0 if self.loose(self.read(stage)) else 1

    def falls(self, stage):
        if stage >= 2 ** len(self.order):
            return -1
        left = self.read(stage)
        while self.loose(left):
            left = left - self.loose(left)
        return self.write(left)

    def does(self, move):
        thing = ("piece", move) if move < 10 else ("prop", move % 10)
        if thing not in self.order or move >= 30:
            return -1
        behind = self.behind(self.there, move // 10, thing, self.at_once)
        if behind is None:
            return -6
        self.there = behind
        return self.write(behind)

    def undo(self):
        self.there = frozenset()
        return 0

    def fewest(self):
        moves = self.plans(self.there, self.at_once).get(self.end())
        return -6 if moves is None else len(moves)

    def plan(self):
        moves = self.plans(self.there, self.at_once).get(self.end())
        return -6 if moves is None else (len(moves), moves)

    def far(self):
        reached = self.plans(self.there, self.at_once)
        told = [(len(stage & self.end()), self.write(stage)) for stage in reached]
        most = max(pieces for pieces, _ in told)
        return most, [min(stage for pieces, stage in told if pieces == most), len(reached)]

    def needed(self):
        props = len(self.order) - len(self.sets)
        enough = [at_once for at_once in range(props + 1) if self.end() in self.plans(frozenset(), at_once)]
        return min(enough, default=-6)

    def spare(self):
        if self.loose(self.end()):
            return -6
        pieces = [piece for kind, piece in self.sets if not self.loose(self.end() - {(kind, piece)})]
        return len(pieces), pieces

    def state(self):
        counts = [len(self.sets), len(self.order) - len(self.sets), self.at_once]
        told = [number for sets in self.sets.values() for number in [len(sets), *map(self.write, sets)]]
        return self.write(self.there), counts, told


class Numbers:
    """The same numbers each time, without a random source."""

    def __init__(self, seed):
        self.seed = seed

    def below(self, most):
        self.seed = (self.seed * 6364136223846793005 + 1442695040888963407) % 2 ** 64
        return (self.seed >> 33) % most


def design_lines(numbers):
    pieces, props = 1 + numbers.below(6), numbers.below(3)
    line = [begins(pieces, props, numbers.below(props + 1))]
    for piece in range(pieces):
        for time in range(numbers.below(4)):
            base = numbers.below(2 ** (pieces + props)) & numbers.below(2 ** (pieces + props))
            line.append(rests(piece, base))
    return pieces, props, line


def any_call(numbers, pieces, props):
    things = pieces + props
    which = numbers.below(40)
    if which < 26:
        moves = [*range(pieces + 1), *range(10, 11 + props), *range(20, 21 + props), LARGEST]
        return does(moves[numbers.below(len(moves))])
    if which < 29:
        return rests(numbers.below(pieces + 1), numbers.below(2 ** things + 1))
    if which < 33:
        return carries(numbers.below(2 ** things + 1))
    if which < 37:
        return falls(numbers.below(2 ** things + 1))
    if which < 39:
        return undo()
    return begins(numbers.below(8), numbers.below(4), numbers.below(4))


def standing_lines(numbers, most):
    """A design of up to so many pieces that mostly lean on one another, and on props till they do."""
    pieces, props = 1 + numbers.below(most), numbers.below(3)
    line = [begins(pieces, props, numbers.below(props + 1))]
    for piece in range(pieces):
        if numbers.below(6) == 0:
            line.append(rests(piece, 0))
            continue
        others = [2 ** other for other in range(pieces) if other != piece] or [0]
        line.append(rests(piece, others[numbers.below(len(others))]))
        if numbers.below(4) == 0:
            line.append(rests(piece, others[numbers.below(len(others))] | others[numbers.below(len(others))]))
        if props and numbers.below(3):
            base = (1 + numbers.below(2 ** props - 1)) * 2 ** pieces
            line.append(rests(piece, base if numbers.below(2) else base | others[numbers.below(len(others))]))
    return pieces, props, line


ASKING = [fewest(), plan(), far(), needed(), spare(), state()]


class Sweep(unittest.TestCase):
    def assert_by_the_words(self, line):
        words = ByTheWords()
        self.assertEqual(ask(*line), [words.answer(call) for call in line], line)

    def test_every_stage_of_many_designs(self):
        numbers = Numbers(1)
        for time in range(150):
            pieces, props, line = design_lines(numbers)
            room = (80 - len(line)) // 2
            stages = range(2 ** (pieces + props) + 1)
            for start in range(0, len(stages), room):
                some = stages[start:start + room]
                self.assert_by_the_words(line + [ask_for(stage) for stage in some for ask_for in (carries, falls)])

    def test_calls_in_any_order(self):
        numbers = Numbers(2)
        for time in range(3000):
            pieces, props, line = design_lines(numbers)
            while len(line) < 80:
                line.append(any_call(numbers, pieces, props))
            self.assert_by_the_words(line)

    def test_all_that_is_asked_from_the_empty_stage(self):
        numbers = Numbers(3)
        most_needed = set()
        for time in range(600):
            pieces, props, line = standing_lines(numbers, 6 if time % 10 == 0 else 4)
            self.assert_by_the_words(line + ASKING)
            most_needed.add(ask(*line, needed())[-1])
        self.assertEqual(most_needed, {-6, 0, 1, 2})

    def test_all_that_is_asked_on_the_way(self):
        numbers = Numbers(4)
        for time in range(250):
            pieces, props, line = standing_lines(numbers, 4)
            moves = [*range(pieces), *range(10, 10 + props), *range(20, 20 + props)]
            while len(line) < 55:
                line.append(does(moves[numbers.below(len(moves))]))
                if numbers.below(3) == 0:
                    line.append(ASKING[numbers.below(len(ASKING))])
                if numbers.below(20) == 0:
                    line.append(undo())
            self.assert_by_the_words(line + ASKING)


if __name__ == "__main__":
    unittest.main()
