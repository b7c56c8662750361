"""What holds of every request, held for many drawn ones."""

import random
import unittest

from tests.asking import BIGGEST, apart, ask, ask_lists, kind, parts, path, tell, threes, time


class Drawn:
    """A piece of a drawn request."""

    def __init__(self, piece_id, within, since, to, kind_number):
        self.piece_id = piece_id
        self.within = within
        self.since = since
        self.to = to
        self.kind = kind_number

    def row(self, request=0):
        return tell(request, self.piece_id, self.within, self.since, self.to, self.kind)


def draw(source, count, longest):
    """A whole and pieces around it, some of them within what is never told; ids are drawn too."""
    ids = source.sample(range(1, 4 * count + 4), count + 1)
    never_told = ids.pop()
    pieces = []
    for at, piece_id in enumerate(ids):
        within = 0
        if at > 0:
            within = source.choice(ids[:at]) if source.random() < 0.9 else never_told
        times = sorted(source.choices(range(longest + 1), k=2))
        if at == 0 and source.random() < 0.8:
            times = [longest // 8, longest - longest // 8]
        pieces.append(Drawn(piece_id, within, times[0], times[1], source.choice((0, 1, 2, 63))))
    return pieces


def draws():
    source = random.Random(5)
    for k in range(250):
        yield source, draw(source, source.choice((1, 2, 3, 5, 8, 13)), source.choice((4, 10, 100)))
    for k in range(10):
        yield source, draw(source, 64, source.choice((20, 1000, BIGGEST)))


class Holds(unittest.TestCase):
    def test_parts_lie_one_right_behind_another_and_none_is_empty(self):
        for source, pieces in draws():
            at = pieces[0].since
            for piece_id, since, to in parts([piece.row() for piece in pieces]):
                self.assertEqual(since, at)
                self.assertLess(since, to)
                at = to
            self.assertEqual(at, pieces[0].to)

    def test_nothing_right_within_is_at_work_while_a_part_falls_to_a_piece(self):
        for source, pieces in draws():
            for piece_id, since, to in parts([piece.row() for piece in pieces]):
                for inner in pieces:
                    if inner.within == piece_id and inner.since < inner.to:
                        self.assertTrue(inner.to <= since or to <= inner.since)

    def test_a_part_falls_to_a_piece_at_work_then(self):
        for source, pieces in draws():
            by_id = {piece.piece_id: piece for piece in pieces}
            for piece_id, since, to in parts([piece.row() for piece in pieces]):
                at = piece_id
                while at != 0:
                    self.assertTrue(by_id[at].since <= since and to <= by_id[at].to)
                    at = by_id[at].within

    def test_all_times_are_together_as_long_as_the_whole(self):
        for source, pieces in draws():
            rows = [piece.row() for piece in pieces]
            times = ask(rows + [time(0, piece.piece_id) for piece in pieces])[len(rows):]
            self.assertEqual(sum(times), pieces[0].to - pieces[0].since)
            self.assertGreaterEqual(min(times), 0)

    def test_times_are_those_of_the_path(self):
        for source, pieces in draws():
            rows = [piece.row() for piece in pieces]
            given = ask_lists(rows + [path(0)] + [time(0, piece.piece_id) for piece in pieces])[len(rows):]
            found = threes(given[0])
            expected = [sum(to - since for piece_id, since, to in found if piece_id == piece.piece_id)
                        for piece in pieces]
            self.assertEqual([answer[0] for answer in given[1:]], expected)

    def test_all_kinds_are_together_as_long_as_the_wholes(self):
        source = random.Random(6)
        for k in range(40):
            requests = [draw(source, 12, 100) for request in range(16)]
            rows = [piece.row(request) for request, pieces in enumerate(requests) for piece in pieces]
            given = ask(rows + [kind(number) for number in range(64)])[len(rows):]
            self.assertEqual(sum(given), sum(pieces[0].to - pieces[0].since for pieces in requests))
            self.assertEqual(sum(given[3:63]), 0)

    def test_in_whichever_order_pieces_are_told(self):
        for source, pieces in draws():
            rows = [piece.row() for piece in pieces]
            asked = [path(0), apart(0)] + [time(0, piece.piece_id) for piece in pieces] + [kind(0), kind(63)]
            expected = ask_lists(rows + asked)[len(rows):]
            for k in range(4):
                source.shuffle(rows)
                self.assertEqual(ask_lists(rows + asked)[len(rows):], expected)
            rows.sort()
            self.assertEqual(ask_lists(rows + asked)[len(rows):], expected)

    def test_what_does_not_lie_within_the_whole_has_no_time(self):
        met = 0
        for source, pieces in draws():
            inside = {0}
            for piece in pieces:
                if piece.within in inside:
                    inside.add(piece.piece_id)
            outside = [piece for piece in pieces if piece.piece_id not in inside]
            met += len(outside)
            rows = [piece.row() for piece in pieces]
            given = ask(rows + [apart(0)] + [time(0, piece.piece_id) for piece in outside])[len(rows):]
            self.assertEqual(given, [len(outside)] + [0] * len(outside))
            without = [piece.row() for piece in pieces if piece.piece_id in inside]
            self.assertEqual(parts(rows), parts(without))
        self.assertGreater(met, 100)


if __name__ == "__main__":
    unittest.main()
