import unittest

from tests.asking import BEGIN, BIGGEST, ask, filled, last, tell, time


def times(rows, ids, request=0):
    """How long each of the pieces took once the rows were told."""
    return ask(rows + [time(request, piece_id) for piece_id in ids])[len(rows):]


class Refusals(unittest.TestCase):
    def test_request_above_15(self):
        self.assertEqual(ask([time(16, 1), time(17, 0), time(BIGGEST, BIGGEST)]), [-22] * 3)

    def test_request_up_to_15_is_allowed(self):
        rows = [row for request in range(16) for row in (tell(request, 1, 0, 3, 7), time(request, 1))]
        self.assertEqual(ask(rows), [1, 4] * 16)

    def test_no_pieces(self):
        self.assertEqual(ask([time(0, 1), time(15, 0)]), [-2, -2])

    def test_the_whole_was_not_told(self):
        self.assertEqual(times([tell(0, 2, 1), tell(0, 3, 2)], (1, 2, 3, 4)), [-2] * 4)
        self.assertEqual(times(filled(0), (1, 64)), [-2] * 2)

    def test_no_piece_with_that_id(self):
        self.assertEqual(times([tell(0, 1, 0), tell(0, 2, 1), tell(0, 4, 3)], (0, 3, 5, BIGGEST)), [-2] * 4)

    def test_a_piece_of_another_request(self):
        rows = [tell(0, 1, 0), tell(1, 1, 0), tell(1, 2, 1)]
        self.assertEqual(times(rows, (2,)), [-2])
        self.assertEqual(times(rows, (2,), request=1), [10])

    def test_begin_forgets_it(self):
        self.assertEqual(ask([tell(0, 1, 0), time(0, 1), BEGIN, time(0, 1)]), [1, 10, 0, -2])

    def test_it_changes_nothing(self):
        rows = [time(0, 1), time(16, 1), tell(0, 1, 0), time(0, 2), tell(0, 2, 1, 0, 4), time(0, 2), time(0, 1)]
        self.assertEqual(ask(rows), [-2, -22, 1, -2, 2, 4, 6])


class HowLong(unittest.TestCase):
    def test_the_whole_alone(self):
        self.assertEqual(times([tell(0, 7, 0, 10, 35)], (7,)), [25])

    def test_the_largest_whole(self):
        self.assertEqual(times([tell(0, 7, 0, 0, BIGGEST)], (7,)), [BIGGEST])

    def test_a_whole_that_is_over_at_once(self):
        self.assertEqual(times([tell(0, 1, 0, 5, 5), tell(0, 2, 1, 0, 10)], (1, 2)), [0, 0])

    def test_several_parts_together(self):
        rows = [tell(0, 1, 0, 0, 100), tell(0, 2, 1, 10, 20), tell(0, 3, 1, 30, 60), tell(0, 4, 3, 35, 40),
                tell(0, 5, 3, 42, 50)]
        self.assertEqual(times(rows, (1, 2, 3, 4, 5)), [10 + 10 + 40, 10, 5 + 2 + 10, 5, 8])

    def test_only_the_time_that_falls_to_it(self):
        rows = [tell(0, 1, 0, 0, 100), tell(0, 2, 1, 10, 60), tell(0, 3, 1, 40, 200)]
        self.assertEqual(times(rows, (1, 2, 3)), [10, 30, 60])

    def test_told_but_without_a_part(self):
        rows = [tell(0, 1, 0, 10, 100), tell(0, 2, 1, 20, 100), tell(0, 3, 1, 30, 90), tell(0, 4, 1, 50, 50),
                tell(0, 5, 1, 0, 10), tell(0, 6, 3, 30, 90)]
        self.assertEqual(times(rows, (1, 2, 3, 4, 5, 6)), [10, 80, 0, 0, 0, 0])

    def test_a_piece_that_is_filled_by_what_lies_within_it(self):
        rows = [tell(0, 1, 0, 0, 100), tell(0, 2, 1, 0, 100), tell(0, 3, 2, 0, 100)]
        self.assertEqual(times(rows, (1, 2, 3)), [0, 0, 100])

    def test_what_does_not_lie_within_the_whole(self):
        rows = [tell(0, 1, 0, 0, 100), tell(0, 5, 4, 0, 100), tell(0, 6, 5, 10, 20)]
        self.assertEqual(times(rows, (1, 5, 6)), [100, 0, 0])

    def test_told_before_what_it_lies_within(self):
        rows = [tell(0, 3, 2, 20, 30), tell(0, 1, 0, 0, 100), time(0, 3), tell(0, 2, 1, 0, 50), time(0, 3), time(0, 2)]
        self.assertEqual(ask(rows), [1, 2, 0, 3, 10, 40])

    def test_deep_ones(self):
        rows = [tell(0, k, k - 1, k, 1000 - k) for k in range(1, 65)]
        self.assertEqual(times(rows, range(1, 65)), [2] * 63 + [872])

    def test_asked_twice_it_is_the_same(self):
        self.assertEqual(last([tell(0, 1, 0, 0, 9), time(0, 1), time(0, 1)]), 9)


if __name__ == "__main__":
    unittest.main()
