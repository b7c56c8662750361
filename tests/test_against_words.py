"""Many made-up lists of calls, held against the document's words taken as slowly as they stand."""

import itertools
import random
import unittest

from tests.asking import BEGIN, apart, ask_lists, flat, kind, path, tell, time


class Words:
    def __init__(self):
        self.told = []

    def begin(self):
        self.told = []
        return 0

    def pieces(self, request):
        return [(piece_id, within) for of, piece_id, within, since, to, number in self.told if of == request]

    def outwards(self, request, piece_id):
        """All that one comes to from there outwards, itself too: grown until nothing is new."""
        reached = {piece_id}
        while True:
            grown = reached | {within for inner, within in self.pieces(request) if inner in reached}
            if grown == reached:
                return reached
            reached = grown

    def tell(self, request, piece_id, within, since, to, kind):
        pieces = self.pieces(request)
        if request > 15 or piece_id == 0 or within == piece_id or since > to or kind > 63:
            return -22
        if piece_id in [other for other, outer in pieces] or within == 0 and 0 in [outer for other, outer in pieces]:
            return -17
        if piece_id in self.outwards(request, within):
            return -41
        if len(pieces) >= 64:
            return -28
        self.told.append((request, piece_id, within, since, to, kind))
        return len(pieces) + 1

    def apart(self, request):
        if request > 15:
            return -22
        pieces = self.pieces(request)
        inside = {piece_id for piece_id, within in pieces if within == 0}
        while True:
            grown = inside | {piece_id for piece_id, within in pieces if within in inside}
            if grown == inside:
                return len([piece_id for piece_id, within in pieces if piece_id not in inside])
            inside = grown

    def falls(self, request, p, lo, hi):
        """To whom a stretch falls: of each moment in it, one by one, the piece's id."""
        if not lo < hi:
            return []
        inner = [(piece_id, since, to) for of, piece_id, within, since, to, number in self.told
                 if of == request and within == p and set(range(since, to)) & set(range(lo, hi))]
        if not inner:
            return [p] * (hi - lo)
        ends_last = max(min(to, hi) for piece_id, since, to in inner)
        inner = [piece for piece in inner if min(piece[2], hi) == ends_last]
        begins_first = min(since for piece_id, since, to in inner)
        c = min(piece_id for piece_id, since, to in inner if since == begins_first)
        e = ends_last
        b = max(begins_first, lo)
        return self.falls(request, p, lo, b) + self.falls(request, c, b, e) + [p] * (hi - e)

    def wholes(self, request):
        return [(piece_id, since, to) for of, piece_id, within, since, to, number in self.told
                if of == request and within == 0]

    def moments(self, request):
        """The piece's id of each moment of the whole; none if that was not told."""
        return [owner for whole in self.wholes(request) for owner in self.falls(request, *whole)]

    def path(self, request):
        if request > 15:
            return -22
        if not self.wholes(request):
            return -2
        at = self.wholes(request)[0][1]
        found = []
        for owner, run in itertools.groupby(self.moments(request)):
            till = at + len(list(run))
            found.append([owner, at, till])
            at = till
        return [len(found)] + flat(found)

    def time(self, request, piece_id):
        if request > 15:
            return -22
        if not self.wholes(request) or piece_id not in [other for other, within in self.pieces(request)]:
            return -2
        return self.moments(request).count(piece_id)

    def kind(self, kind):
        if kind > 63:
            return -22
        of_kind = [(request, piece_id) for request, piece_id, within, since, to, number in self.told if number == kind]
        return sum(self.moments(request).count(piece_id) for request, piece_id in of_kind)

    def answer(self, row):
        given = (self.begin, self.tell, self.apart, self.path, self.time, self.kind)[row[0]](*row[1:])
        return given if isinstance(given, list) else [given]


def drawn_tell(source, request, piece_id, within, longest):
    since = source.randrange(longest)
    to = since + source.choice((-1, 0, 1, 2, longest // 12, longest // 12, longest // 4, longest // 2, longest))
    number = source.choice((0, 1, 62, 63, 63, 63, 63, 64))
    return tell(request, piece_id, within, since, max(to, 0), number)


def drawn_question(source, request, ids):
    number = source.choice((0, 1, 62, 63, 63, 64))
    return source.choice((apart(request), path(request), path(request), time(request, source.randrange(ids)),
                          kind(number)))


def made_up(source, count, ids, requests, begins):
    rows = []
    for k in range(count):
        request = source.choice(requests)
        chance = source.random()
        if chance < begins:
            rows.append(BEGIN)
        elif chance < 0.25:
            rows.append(drawn_question(source, request, ids))
        else:
            rows.append(drawn_tell(source, request, source.randrange(ids), source.randrange(ids), 12))
    return rows


def made_up_around_wholes(source, count, ids, requests):
    """Like made_up, but each request has a long whole, 1, and pieces lie more often near it than far within."""
    rows = [tell(request, 1, 0, 10, 50, source.randrange(3)) for request in requests]
    for k in range(count):
        request = source.choice(requests)
        if source.random() < 0.25:
            rows.append(drawn_question(source, request, ids))
        else:
            within = source.choice((1, source.randrange(1, 4), source.randrange(ids)))
            rows.append(drawn_tell(source, request, source.randrange(ids), within, 60))
    return rows


class AgainstWords(unittest.TestCase):
    def hold(self, rows, met):
        words = Words()
        expected = [words.answer(row) for row in rows]
        self.assertEqual(ask_lists(rows), expected)
        met.update((row[0], answer[0]) for row, answer in zip(rows, expected))

    def assert_met(self, met, call, firsts):
        """So the lists made up do reach these answers of the call."""
        self.assertLessEqual({(call, first) for first in firsts}, met)

    def test_few_ids_in_few_requests(self):
        source = random.Random(1)
        met = set()
        for k in range(300):
            self.hold(made_up(source, 40, source.choice((4, 8, 16)), (0, 1, 15, 16), 0.02), met)
        self.assert_met(met, 1, (-22, -17, -41, 1, 2, 3, 4, 5))
        self.assert_met(met, 2, (-22, 0, 1, 2, 3))
        self.assert_met(met, 3, (-22, -2, 0, 1, 2, 3))
        self.assert_met(met, 4, (-22, -2, 0))
        self.assert_met(met, 5, (-22, 0))

    def test_full_requests(self):
        source = random.Random(2)
        met = set()
        for k in range(10):
            self.hold(made_up(source, 399, source.choice((90, 120, 200)), (0, 15), 0.0), met)
        self.assert_met(met, 1, (-22, -17, -41, -28, 64))

    def test_around_wholes(self):
        source = random.Random(3)
        met = set()
        for k in range(200):
            self.hold(made_up_around_wholes(source, 60, source.choice((6, 12, 40)), (0, 15)), met)
        self.assert_met(met, 3, range(1, 11))
        self.assert_met(met, 4, (-2, 0))
        self.assert_met(met, 5, (-22, 0))
        for call in (4, 5):
            self.assertGreater(len([first for of, first in met if of == call and first > 0]), 20)


if __name__ == "__main__":
    unittest.main()
