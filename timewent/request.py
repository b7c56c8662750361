"""One request, and the pieces of work that were told of it."""

MOST_PIECES = 64

TOLD_BEFORE = -17
GOES_ROUND = -41
TOO_MANY = -28


class Piece:
    """A piece of work: what it lies right within, from when till when it is at work, its kind."""

    def __init__(self, within, since, to, kind):
        self.within = within
        self.since = since
        self.to = to
        self.kind = kind


class Request:
    """The pieces that were told of one request, each under its id."""

    def __init__(self):
        self.told = {}
        # No piece has the id 0, so it stands for a whole that was not told.
        self.whole = 0

    def tell(self, piece_id, piece):
        """Keep the piece and answer how many are kept, or refuse it."""
        if piece_id in self.told or (piece.within == 0 and self.whole != 0):
            return TOLD_BEFORE
        if self.comes_to(piece.within, piece_id):
            return GOES_ROUND
        if len(self.told) == MOST_PIECES:
            return TOO_MANY
        self.told[piece_id] = piece
        if piece.within == 0:
            self.whole = piece_id
        return len(self.told)

    def comes_to(self, start_id, piece_id):
        """Whether one comes, from the start outwards, to the piece's id."""
        # The pieces told never go round, as tell refuses that: every walk outwards ends.
        at = start_id
        while at != piece_id and at in self.told:
            at = self.told[at].within
        return at == piece_id

    def lies_within_whole(self, piece_id):
        """Whether the piece is the whole, or lies within it in however many steps."""
        return self.whole != 0 and self.comes_to(piece_id, self.whole)

    def apart(self):
        """How many of the pieces told do not lie within the whole."""
        return len([piece_id for piece_id in self.told if not self.lies_within_whole(piece_id)])
