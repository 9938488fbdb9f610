"""A design: its pieces and props, on what the pieces rest, and what that says of stages and moves.

A stage, like every set of things, is a whole number: the sum of 2 to the power i over the things i in it.
The pieces come first among the things, then the props.
"""

MOST_PIECES = 6
MOST_PROPS = 2
MOST_BASES = 4
FIRST_PUT = 10
FIRST_TAKE = 20


def is_design(pieces, props, at_once):
    """Whether there may be a design of so many pieces and props, and so many props at once."""
    if pieces < 1 or pieces > MOST_PIECES:
        return False
    return props <= MOST_PROPS and at_once <= props


def holds(stage, part):
    """Whether all of the part is in the stage."""
    return (stage & part) == part


def how_many(stage):
    """How many things are in the stage."""
    found = 0
    left = stage
    while left > 0:
        found = found + (left & 1)
        left = left >> 1
    return found


class Design:
    """Pieces, props, how many props may stand at once, and the sets on which each piece rests."""

    def __init__(self, pieces, props, at_once):
        self.pieces = pieces
        self.props = props
        self.at_once = at_once
        self.bases = [[] for piece in range(pieces)]

    def with_at_once(self, at_once):
        """Another design that's like this one, but for how many props may stand at once."""
        other = Design(self.pieces, self.props, at_once)
        other.bases = [list(bases) for bases in self.bases]
        return other

    def end(self):
        """The stage with all pieces and no prop."""
        return (1 << self.pieces) - 1

    def is_piece(self, number):
        return number < self.pieces

    def is_set(self, number):
        return number < (1 << (self.pieces + self.props))

    def has_all_bases(self, piece):
        return len(self.bases[piece]) == MOST_BASES

    def add_base(self, piece, base):
        """Let the piece rest on one set more; tell on how many it rests then."""
        self.bases[piece].append(base)
        return len(self.bases[piece])

    def piece_rests(self, piece, stage):
        for base in self.bases[piece]:
            if holds(stage, base):
                return True
        return False

    def without_loose(self, stage):
        """The stage without the pieces that don't rest in it as it is."""
        left = stage
        for piece in range(self.pieces):
            bit = 1 << piece
            if holds(stage, bit) and not self.piece_rests(piece, stage):
                left = left - bit
        return left

    def does_carry(self, stage):
        return self.without_loose(stage) == stage

    def what_stays(self, stage):
        """What's left of the stage when all has fallen that falls."""
        left = stage
        while not self.does_carry(left):
            left = self.without_loose(left)
        return left

    def spare_pieces(self):
        """The pieces, rising, without each of which the end's stage would carry."""
        end = self.end()
        return [piece for piece in range(self.pieces) if self.does_carry(end - (1 << piece))]

    def is_move(self, number):
        if number < FIRST_PUT:
            return self.is_piece(number)
        if number < FIRST_TAKE:
            return number - FIRST_PUT < self.props
        return number - FIRST_TAKE < self.props

    def prop_bit(self, prop):
        return 1 << (self.pieces + prop)

    def moves(self):
        """All moves of the pieces and props, rising."""
        lays = list(range(self.pieces))
        puts = [FIRST_PUT + prop for prop in range(self.props)]
        takes = [FIRST_TAKE + prop for prop in range(self.props)]
        return lays + puts + takes

    def pieces_there(self, stage):
        """How many pieces are in the stage."""
        return how_many(stage & self.end())

    def props_there(self, stage):
        """How many props are in the stage."""
        return how_many(stage >> self.pieces)

    def with_thing(self, stage, bit):
        """The stage and the thing, or None where it's there already."""
        if holds(stage, bit):
            return None
        return stage + bit

    def with_prop(self, stage, prop):
        """The stage and the prop, or None where it can't be put."""
        if self.props_there(stage) >= self.at_once:
            return None
        return self.with_thing(stage, self.prop_bit(prop))

    def without_prop(self, stage, prop):
        """The stage without the prop, or None where it isn't there."""
        bit = self.prop_bit(prop)
        if not holds(stage, bit):
            return None
        return stage - bit

    def moved(self, stage, move):
        """The stage with the move made, whether it carries or not, or None where there's nothing to move."""
        if move < FIRST_PUT:
            return self.with_thing(stage, 1 << move)
        if move < FIRST_TAKE:
            return self.with_prop(stage, move - FIRST_PUT)
        return self.without_prop(stage, move - FIRST_TAKE)

    def stage_behind(self, stage, move):
        """The stage to which the move leads, or None where it can't be done."""
        behind = self.moved(stage, move)
        if behind is None or not self.does_carry(behind):
            return None
        return behind
