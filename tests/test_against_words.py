"""Many made-up lists of calls, held against the document's words taken as slowly as they stand."""

import random
import unittest

from tests.asking import BEGIN, apart, ask, tell


class Words:
    def __init__(self):
        self.told = []

    def begin(self):
        self.told = []
        return 0

    def pieces(self, request):
        return [(piece_id, within) for of, piece_id, within in self.told if of == request]

    def outwards(self, request, piece_id):
        """All that one comes to from there outwards, itself too: grown until nothing is new."""
        reached = {piece_id}
        while True:
            grown = reached | {within for inner, within in self.pieces(request) if inner in reached}
            if grown == reached:
                return reached
            reached = grown

    def tell(self, request, piece_id, within, since, to, kind):
        pieces = self.pieces(request)
        if request > 15 or piece_id == 0 or within == piece_id or since > to or kind > 63:
            return -22
        if piece_id in [other for other, outer in pieces] or within == 0 and 0 in [outer for other, outer in pieces]:
            return -17
        if piece_id in self.outwards(request, within):
            return -41
        if len(pieces) >= 64:
            return -28
        self.told.append((request, piece_id, within))
        return len(pieces) + 1

    def apart(self, request):
        if request > 15:
            return -22
        pieces = self.pieces(request)
        inside = {piece_id for piece_id, within in pieces if within == 0}
        while True:
            grown = inside | {piece_id for piece_id, within in pieces if within in inside}
            if grown == inside:
                return len([piece_id for piece_id, within in pieces if piece_id not in inside])
            inside = grown

    def answer(self, row):
        return (self.begin, self.tell, self.apart)[row[0]](*row[1:])


def made_up(source, count, ids, requests, begins):
    rows = []
    for k in range(count):
        request = source.choice(requests)
        chance = source.random()
        if chance < begins:
            rows.append(BEGIN)
        elif chance < 0.25:
            rows.append(apart(request))
        else:
            since = source.randrange(10)
            to = since + source.choice((-1, 0, 1, 5, 5, 5, 5, 5))
            kind = source.choice((0, 1, 62, 63, 63, 63, 63, 64))
            rows.append(tell(request, source.randrange(ids), source.randrange(ids), since, max(to, 0), kind))
    return rows


class AgainstWords(unittest.TestCase):
    def hold(self, rows, met):
        words = Words()
        expected = [words.answer(row) for row in rows]
        self.assertEqual(ask(rows), expected)
        met.update(expected)

    def test_few_ids_in_few_requests(self):
        source = random.Random(1)
        met = set()
        for k in range(300):
            self.hold(made_up(source, 40, source.choice((4, 8, 16)), (0, 1, 15, 16), 0.02), met)
        self.assertTrue({-22, -17, -41, 0, 1, 2, 3, 4, 5} <= met)

    def test_full_requests(self):
        source = random.Random(2)
        met = set()
        for k in range(10):
            self.hold(made_up(source, 399, source.choice((90, 120, 200)), (0, 15), 0.0), met)
        self.assertTrue({-22, -17, -41, -28, 64} <= met)


if __name__ == "__main__":
    unittest.main()
