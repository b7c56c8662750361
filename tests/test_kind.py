import unittest

from tests.asking import BEGIN, BIGGEST, ask, filled, kind, tell


def kinds(rows, numbers):
    """How long each of the kinds took once the rows were told."""
    return ask(rows + [kind(number) for number in numbers])[len(rows):]


class Refusals(unittest.TestCase):
    def test_kind_above_63(self):
        self.assertEqual(ask([kind(64), kind(65), kind(BIGGEST)]), [-22] * 3)
        self.assertEqual(kinds([tell(0, 1, 0, 0, 10, 63)], (64, BIGGEST)), [-22] * 2)

    def test_kinds_up_to_63_are_allowed(self):
        self.assertEqual(ask([kind(number) for number in range(64)]), [0] * 64)

    def test_it_changes_nothing(self):
        rows = [kind(64), kind(5), tell(0, 1, 0, 0, 10, 5), kind(64), kind(5), tell(0, 2, 1, 0, 4, 6), kind(5), kind(6)]
        self.assertEqual(ask(rows), [-22, 0, 1, -22, 10, 2, 6, 4])


class HowLong(unittest.TestCase):
    def test_kind_63_and_kind_0(self):
        self.assertEqual(kinds([tell(0, 1, 0, 0, 10, 63), tell(0, 2, 1, 2, 5, 0)], (63, 0)), [7, 3])

    def test_a_kind_that_nobody_has(self):
        self.assertEqual(kinds([tell(0, 1, 0, 0, 10, 7)], (6, 8, 0, 63)), [0] * 4)

    def test_several_pieces_of_one_kind_in_one_request(self):
        rows = [tell(0, 1, 0, 0, 100, 1), tell(0, 2, 1, 10, 20, 2), tell(0, 3, 1, 30, 60, 2), tell(0, 4, 3, 40, 45, 1)]
        self.assertEqual(kinds(rows, (1, 2)), [10 + 10 + 40 + 5, 10 + 25])

    def test_several_requests_together(self):
        rows = [tell(0, 1, 0, 0, 100, 1), tell(0, 2, 1, 10, 20, 2), tell(7, 1, 0, 50, 53, 2),
                tell(15, 9, 0, 0, 1000, 3), tell(15, 2, 9, 0, 200, 2)]
        self.assertEqual(kinds(rows, (1, 2, 3)), [90, 10 + 3 + 200, 800])

    def test_the_same_time_in_two_requests_counts_twice(self):
        self.assertEqual(kinds([tell(0, 1, 0, 0, 10, 4), tell(1, 1, 0, 0, 10, 4)], (4,)), [20])

    def test_the_kind_is_that_of_the_piece_in_its_own_request(self):
        rows = [tell(0, 1, 0, 0, 10, 4), tell(1, 1, 0, 0, 20, 5)]
        self.assertEqual(kinds(rows, (4, 5)), [10, 20])

    def test_requests_without_a_whole_count_nothing(self):
        rows = [tell(0, 2, 1, 0, 100, 4), tell(1, 1, 0, 0, 10, 4)] + filled(2)
        self.assertEqual(kinds(rows, (4, 0)), [10, 0])

    def test_a_request_counts_once_its_whole_is_told(self):
        rows = [tell(0, 2, 1, 0, 50, 4), kind(4), tell(0, 1, 0, 0, 100, 5), kind(4), kind(5)]
        self.assertEqual(ask(rows), [1, 0, 2, 50, 50])

    def test_what_does_not_lie_within_the_whole_counts_nothing(self):
        rows = [tell(0, 1, 0, 0, 100, 4), tell(0, 5, 9, 0, 100, 6), tell(0, 6, 5, 0, 100, 7)]
        self.assertEqual(kinds(rows, (4, 6, 7)), [100, 0, 0])

    def test_hidden_and_empty_pieces_count_nothing(self):
        rows = [tell(0, 1, 0, 0, 100, 1), tell(0, 2, 1, 0, 100, 2), tell(0, 3, 1, 20, 60, 3), tell(0, 4, 2, 50, 50, 4)]
        self.assertEqual(kinds(rows, (1, 2, 3, 4)), [0, 100, 0, 0])

    def test_a_sum_over_16_requests_above_the_largest_whole_number(self):
        rows = [tell(request, 1, 0, 0, BIGGEST, 63) for request in range(16)]
        self.assertEqual(kinds(rows, (63, 62)), [16 * BIGGEST, 0])

    def test_a_sum_just_above_the_largest_whole_number(self):
        rows = [tell(0, 1, 0, 0, BIGGEST, 63), tell(1, 1, 0, 0, 1, 63)]
        self.assertEqual(kinds(rows, (63,)), [BIGGEST + 1])

    def test_begin_forgets_all(self):
        self.assertEqual(ask([tell(0, 1, 0, 0, 10, 5), kind(5), BEGIN, kind(5)]), [1, 10, 0, 0])


if __name__ == "__main__":
    unittest.main()
