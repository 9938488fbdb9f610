"""The calls on a bridge: read from one list of whole numbers, answered in another."""

from bridgestages.design import Design, is_design

BEGINS = 0
RESTS = 1
CARRIES = 2
FALLS = 3
DOES = 4

# How many whole numbers stand behind each call's own.
HANDED = (3, 2, 1, 1, 1, 0)


class Bridge:
    """A design and the stage of it that's there. Its calls answer a number; one below 0 is a refusal."""

    def __init__(self):
        self.design = Design(1, 0, 0)
        self.stage = 0

    def begins(self, pieces, props, at_once):
        if not is_design(pieces, props, at_once):
            return -1
        self.design = Design(pieces, props, at_once)
        self.stage = 0
        return 0

    def rests(self, piece, base):
        # Of several refusals that are due the first one counts, so their order matters.
        if not self.design.is_set(base):
            return -1
        if not self.design.is_piece(piece):
            return -2
        if self.stage != 0:
            return -4
        if self.design.has_all_bases(piece):
            return -5
        return self.design.add_base(piece, base)

    def carries(self, stage):
        if not self.design.is_set(stage):
            return -1
        return 1 if self.design.does_carry(stage) else 0

    def falls(self, stage):
        if not self.design.is_set(stage):
            return -1
        return self.design.what_stays(stage)

    def does(self, move):
        if not self.design.is_move(move):
            return -1
        behind = self.design.stage_behind(self.stage, move)
        if behind is None:
            return -6
        self.stage = behind
        return self.stage

    def undo(self):
        self.stage = 0
        return 0


def answer(bridge, call, numbers):
    """The number that the bridge answers to the call with these numbers."""
    if call == BEGINS:
        return bridge.begins(numbers[0], numbers[1], numbers[2])
    if call == RESTS:
        return bridge.rests(numbers[0], numbers[1])
    if call == CARRIES:
        return bridge.carries(numbers[0])
    if call == FALLS:
        return bridge.falls(numbers[0])
    if call == DOES:
        return bridge.does(numbers[0])
    # Of the calls that HANDED knows only undo, 5, is left, and it is handed nothing.
    return bridge.undo()


def answers(calls):
    """What a new bridge answers to the calls: for each how many numbers, then these."""
    bridge = Bridge()
    told = []
    place = 0
    while place < len(calls):
        call = calls[place]
        start = place + 1
        place = start + HANDED[call]
        told.append(1)
        told.append(answer(bridge, call, calls[start:place]))
    return told
