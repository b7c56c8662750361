import itertools
import unittest

from tests.asking import BIGGEST, apart, ask, last, tell


def nested(count):
    """Piece 1 is the whole, and each other lies right within the one before, from outside in."""
    return [tell(0, k, k - 1) for k in range(1, count + 1)]


class Apart(unittest.TestCase):
    def test_request_above_15(self):
        self.assertEqual(ask([apart(16), apart(17), apart(BIGGEST)]), [-22] * 3)

    def test_no_pieces(self):
        self.assertEqual(ask([apart(request) for request in range(16)]), [0] * 16)

    def test_the_whole_alone(self):
        self.assertEqual(ask([tell(15, 9, 0), apart(15)]), [1, 0])

    def test_all_if_the_whole_was_not_told(self):
        self.assertEqual(ask([tell(0, 2, 1), tell(0, 3, 2), tell(0, 4, 7), apart(0)]), [1, 2, 3, 3])

    def test_right_within_the_whole(self):
        self.assertEqual(last([tell(0, 1, 0), tell(0, 2, 1), tell(0, 3, 1), apart(0)]), 0)

    def test_told_before_what_they_lie_within(self):
        rows = [tell(0, 4, 3), apart(0), tell(0, 3, 2), apart(0), tell(0, 1, 0), apart(0), tell(0, 2, 1), apart(0)]
        self.assertEqual(ask(rows), [1, 1, 2, 2, 3, 2, 4, 0])

    def test_the_whole_told_last(self):
        self.assertEqual(ask([tell(0, 2, 1), tell(0, 3, 2), apart(0), tell(0, 1, 0), apart(0)]), [1, 2, 2, 3, 0])

    def test_the_outer_one_is_never_told(self):
        rows = [tell(0, 1, 0), tell(0, 2, 1), tell(0, 5, 4), tell(0, 6, 5), tell(0, 7, 5), apart(0)]
        self.assertEqual(last(rows), 3)

    def test_another_whole_does_not_join_them(self):
        self.assertEqual(last([tell(0, 2, 1), tell(0, 3, 2), tell(0, 9, 0), apart(0)]), 2)

    def test_times_and_kinds_do_not_matter(self):
        rows = [tell(0, 1, 0, 10, 20, 5), tell(0, 2, 1, 0, 5, 6), tell(0, 3, 2, 30, 30, 7), apart(0)]
        self.assertEqual(last(rows), 0)

    def test_a_whole_that_is_over_at_once(self):
        self.assertEqual(last([tell(0, 1, 0, 4, 4), tell(0, 2, 1, 4, 4), tell(0, 3, 7), apart(0)]), 1)

    def test_each_request_by_itself(self):
        rows = [tell(0, 1, 0), tell(1, 2, 1), tell(1, 3, 2), tell(0, 3, 2), apart(0), apart(1), apart(2)]
        self.assertEqual(ask(rows)[-3:], [1, 2, 0])

    def test_pieces_refused_for_going_round_are_not_there(self):
        rows = [tell(0, 9, 0), tell(0, 1, 2), tell(0, 2, 1), apart(0)]
        self.assertEqual(ask(rows), [1, 2, -41, 1])

    def test_asked_twice_it_is_the_same(self):
        self.assertEqual(ask([tell(0, 1, 0), tell(0, 3, 2), apart(0), apart(0)]), [1, 2, 1, 1])

    def test_in_whichever_order_they_are_told(self):
        told = [tell(0, 1, 0), tell(0, 2, 1), tell(0, 3, 2), tell(0, 5, 4), tell(0, 6, 5)]
        for order in itertools.permutations(told):
            self.assertEqual(ask(list(order) + [apart(0)]), [1, 2, 3, 4, 5, 2])


class Deep(unittest.TestCase):
    def test_64_told_from_outside_in(self):
        rows = [row for told in nested(64) for row in (told, apart(0))]
        self.assertEqual(ask(rows), [answer for k in range(1, 65) for answer in (k, 0)])

    def test_64_told_from_inside_out(self):
        rows = [row for told in reversed(nested(64)) for row in (told, apart(0))]
        expected = [answer for k in range(1, 64) for answer in (k, k)] + [64, 0]
        self.assertEqual(ask(rows), expected)

    def test_64_without_the_whole(self):
        inner = [tell(0, k, k - 1) for k in range(2, 66)]
        self.assertEqual(last(inner + [apart(0)]), 64)
        self.assertEqual(last(inner[::-1] + [apart(0)]), 64)

    def test_one_missing_in_the_midst_cuts_off_what_lies_within_it(self):
        told = nested(64)
        without = told[:31] + told[32:]
        self.assertEqual(ask(without + [apart(0), told[31], apart(0)])[-3:], [32, 64, 0])


if __name__ == "__main__":
    unittest.main()
