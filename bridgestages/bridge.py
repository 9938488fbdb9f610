"""The calls on a bridge: read from one list of whole numbers, answered in another."""

from bridgestages.design import Design, is_design
from bridgestages.ways import furthest, plan_from, props_needed, ways_from

BEGINS = 0
RESTS = 1
CARRIES = 2
FALLS = 3
DOES = 4
UNDO = 5
FEWEST = 6
PLAN = 7
FAR = 8
SPARE = 10
STATE = 11

# How many whole numbers stand behind each call's own.
HANDED = (3, 2, 1, 1, 1, 0, 0, 0, 0, 0, 0, 0)


def with_lengths(rows):
    """All rows one behind another, each behind how many numbers it has."""
    told = []
    for row in rows:
        told.append(len(row))
        told.extend(row)
    return told


class Bridge:
    """A design and the stage of it that's there.

    A call that answers a number alone gives back this number, one with lists besides all that it answers as one list.
    A number below 0 is a refusal.
    """

    def __init__(self):
        self.design = Design(1, 0, 0)
        self.stage = 0

    def begins(self, pieces, props, at_once):
        if not is_design(pieces, props, at_once):
            return -1
        self.design = Design(pieces, props, at_once)
        self.stage = 0
        return 0

    def rests(self, piece, base):
        # Of several refusals that are due the first one counts, so their order matters.
        if not self.design.is_set(base):
            return -1
        if not self.design.is_piece(piece):
            return -2
        if self.stage != 0:
            return -4
        if self.design.has_all_bases(piece):
            return -5
        return self.design.add_base(piece, base)

    def carries(self, stage):
        if not self.design.is_set(stage):
            return -1
        return 1 if self.design.does_carry(stage) else 0

    def falls(self, stage):
        if not self.design.is_set(stage):
            return -1
        return self.design.what_stays(stage)

    def does(self, move):
        if not self.design.is_move(move):
            return -1
        behind = self.design.stage_behind(self.stage, move)
        if behind is None:
            return -6
        self.stage = behind
        return self.stage

    def undo(self):
        self.stage = 0
        return 0

    def fewest(self):
        moves = plan_from(self.design, self.stage)
        if moves is None:
            return -6
        return len(moves)

    def plan(self):
        moves = plan_from(self.design, self.stage)
        if moves is None:
            return [-6]
        return [len(moves)] + with_lengths([moves])

    def far(self):
        ways = ways_from(self.design, self.stage)
        stage = furthest(self.design, ways)
        return [self.design.pieces_there(stage)] + with_lengths([[stage, len(ways)]])

    def needed(self):
        at_once = props_needed(self.design)
        if at_once is None:
            return -6
        return at_once

    def spare(self):
        if not self.design.does_carry(self.design.end()):
            return [-6]
        pieces = self.design.spare_pieces()
        return [len(pieces)] + with_lengths([pieces])

    def state(self):
        design = self.design
        counts = [design.pieces, design.props, design.at_once]
        return [self.stage] + with_lengths([counts, with_lengths(design.bases)])


def number_answered(bridge, call, numbers):
    """What the bridge answers to a call that's answered by a number alone."""
    if call == BEGINS:
        return bridge.begins(numbers[0], numbers[1], numbers[2])
    if call == RESTS:
        return bridge.rests(numbers[0], numbers[1])
    if call == CARRIES:
        return bridge.carries(numbers[0])
    if call == FALLS:
        return bridge.falls(numbers[0])
    if call == DOES:
        return bridge.does(numbers[0])
    if call == UNDO:
        return bridge.undo()
    if call == FEWEST:
        return bridge.fewest()
    # Of these calls only needed, 9, is left.
    return bridge.needed()


def answer(bridge, call, numbers):
    """All numbers that the bridge answers to the call with these numbers."""
    if call == PLAN:
        return bridge.plan()
    if call == FAR:
        return bridge.far()
    if call == SPARE:
        return bridge.spare()
    if call == STATE:
        return bridge.state()
    return [number_answered(bridge, call, numbers)]


def answers(calls):
    """What a new bridge answers to the calls: for each how many numbers, then these."""
    bridge = Bridge()
    told = []
    place = 0
    while place < len(calls):
        call = calls[place]
        start = place + 1
        place = start + HANDED[call]
        told.extend(with_lengths([answer(bridge, call, calls[start:place])]))
    return told
