"""One request, and the pieces of work that were told of it."""

MOST_PIECES = 64

TOLD_BEFORE = -17
GOES_ROUND = -41
TOO_MANY = -28
NOT_TOLD = -2


class Piece:
    """A piece of work: what it lies right within, from when till when it is at work, its kind."""

    def __init__(self, within, since, to, kind):
        self.within = within
        self.since = since
        self.to = to
        self.kind = kind

    def has_time_between(self, lo, hi):
        """Whether the piece is at work for some time from lo till hi."""
        return self.since < hi and lo < self.to and self.since < self.to and lo < hi


class Stretch:
    """A stretch of time from lo till hi, and the id of the piece that it is looked at for, or falls to."""

    def __init__(self, piece_id, lo, hi):
        self.piece_id = piece_id
        self.lo = lo
        self.hi = hi

    def how_long(self):
        """How long the stretch is."""
        return self.hi - self.lo


class Request:
    """The pieces that were told of one request, each under its id."""

    def __init__(self):
        self.told = {}
        # No piece has the id 0, so it stands for a whole that was not told.
        self.whole = 0

    def tell(self, piece_id, piece):
        """Keep the piece and answer how many are kept, or refuse it."""
        if piece_id in self.told or (piece.within == 0 and self.whole != 0):
            return TOLD_BEFORE
        if self.comes_to(piece.within, piece_id):
            return GOES_ROUND
        if len(self.told) == MOST_PIECES:
            return TOO_MANY
        self.told[piece_id] = piece
        if piece.within == 0:
            self.whole = piece_id
        return len(self.told)

    def comes_to(self, start_id, piece_id):
        """Whether one comes, from the start outwards, to the piece's id."""
        # The pieces told never go round, as tell refuses that: every walk outwards ends.
        at = start_id
        while at != piece_id and at in self.told:
            at = self.told[at].within
        return at == piece_id

    def lies_within_whole(self, piece_id):
        """Whether the piece is the whole, or lies within it in however many steps."""
        return self.whole != 0 and self.comes_to(piece_id, self.whole)

    def apart(self):
        """How many of the pieces told do not lie within the whole."""
        return len([piece_id for piece_id in self.told if not self.lies_within_whole(piece_id)])

    def path(self):
        """How many parts there are, then of each its piece's id, from when and till when; or a refusal."""
        if self.whole == 0:
            return [NOT_TOLD]
        parts = self.parts()
        answered = [len(parts)]
        for part in parts:
            answered.extend([part.piece_id, part.lo, part.hi])
        return answered

    def time(self, piece_id):
        """How long all parts are together that fall to the piece; or a refusal."""
        if self.whole == 0 or piece_id not in self.told:
            return NOT_TOLD
        return sum([part.how_long() for part in self.parts() if part.piece_id == piece_id])

    def time_of_kind(self, kind):
        """How long all parts are together that fall to pieces of the kind."""
        return sum([part.how_long() for part in self.parts() if self.told[part.piece_id].kind == kind])

    def parts(self):
        """The parts in the order of time; none without a whole."""
        if self.whole == 0:
            return []
        whole = self.told[self.whole]
        # The latest stretch waits at the list's end, so the parts are found from the whole's end to its beginning.
        waiting = [Stretch(self.whole, whole.since, whole.to)]
        found = []
        while len(waiting) > 0:
            stretch = waiting.pop()
            last_id = self.last_one(stretch)
            own_since = stretch.lo
            if last_id != 0:
                last = self.told[last_id]
                last_since = max(last.since, stretch.lo)
                own_since = min(last.to, stretch.hi)
                waiting.append(Stretch(stretch.piece_id, stretch.lo, last_since))
                waiting.append(Stretch(last_id, last_since, own_since))
            # An empty stretch falls to nobody.
            if own_since < stretch.hi:
                found.append(Stretch(stretch.piece_id, own_since, stretch.hi))
        return list(reversed(found))

    def last_one(self, stretch):
        """The id of the last one right within the stretch's piece, or 0 if none has some time in the stretch."""
        # The least rank is the last one: the latest end, then the first beginning, then the least id.
        ranks = []
        for piece_id in self.told:
            piece = self.told[piece_id]
            if piece.within == stretch.piece_id and piece.has_time_between(stretch.lo, stretch.hi):
                ranks.append((-min(piece.to, stretch.hi), piece.since, piece_id))
        return min(ranks)[2] if len(ranks) > 0 else 0
