import unittest

from tests.asking import BIGGEST, apart, ask, filled, last, tell


def chain(request, count):
    """Piece k lies right within k + 1: told from inside out, the outermost is never told."""
    return [tell(request, k, k + 1) for k in range(1, count + 1)]


class WrongNumbers(unittest.TestCase):
    def test_request_above_15(self):
        for request in (16, 17, 64, BIGGEST):
            self.assertEqual(last([tell(request, 1, 0)]), -22)

    def test_request_up_to_15_is_allowed(self):
        self.assertEqual(ask([tell(request, 1, 0) for request in range(16)]), [1] * 16)

    def test_id_0(self):
        self.assertEqual(ask([tell(0, 0, 0), tell(0, 0, 1)]), [-22, -22])

    def test_id_1_and_the_largest_are_allowed(self):
        self.assertEqual(ask([tell(0, 1, BIGGEST), tell(0, BIGGEST, 2)]), [1, 2])

    def test_within_is_id(self):
        self.assertEqual(ask([tell(0, 1, 1), tell(0, 5, 5), tell(0, BIGGEST, BIGGEST)]), [-22] * 3)

    def test_within_next_to_id_is_allowed(self):
        self.assertEqual(ask([tell(0, 5, 4), tell(0, 7, 8)]), [1, 2])

    def test_from_after_to(self):
        rows = [tell(0, 1, 0, 1, 0), tell(0, 1, 0, 8, 7), tell(0, 1, 0, BIGGEST, BIGGEST - 1)]
        self.assertEqual(ask(rows), [-22] * 3)

    def test_from_equal_to_to_is_allowed(self):
        rows = [tell(0, 1, 0, 0, 0), tell(0, 2, 1, 7, 7), tell(0, 3, 1, BIGGEST, BIGGEST)]
        self.assertEqual(ask(rows), [1, 2, 3])

    def test_from_before_to_is_allowed(self):
        rows = [tell(0, 1, 0, 0, BIGGEST), tell(0, 2, 1, 6, 7), tell(0, 3, 1, BIGGEST - 1, BIGGEST)]
        self.assertEqual(ask(rows), [1, 2, 3])

    def test_kind_above_63(self):
        for kind in (64, 65, BIGGEST):
            self.assertEqual(last([tell(0, 1, 0, kind=kind)]), -22)

    def test_kind_0_and_63_are_allowed(self):
        self.assertEqual(ask([tell(0, 1, 0, kind=0), tell(0, 2, 1, kind=63)]), [1, 2])

    def test_the_largest_numbers_are_allowed(self):
        self.assertEqual(last([tell(15, BIGGEST, BIGGEST - 1, BIGGEST, BIGGEST, 63)]), 1)
        self.assertEqual(last([tell(15, BIGGEST - 1, BIGGEST, BIGGEST, BIGGEST, 63)]), 1)

    def test_a_piece_need_not_lie_in_the_time_of_its_outer_one(self):
        self.assertEqual(ask([tell(0, 1, 0, 10, 20), tell(0, 2, 1, 0, 5), tell(0, 3, 1, 15, 99)]), [1, 2, 3])


class ToldBefore(unittest.TestCase):
    def test_an_id_told_before(self):
        rows = [tell(0, 1, 0), tell(0, 2, 1), tell(0, 2, 1), tell(0, 2, 9, 3, 4, 5), tell(0, 1, 9)]
        self.assertEqual(ask(rows), [1, 2, -17, -17, -17])

    def test_an_id_only_named_by_another_is_not_told(self):
        self.assertEqual(ask([tell(0, 2, 1), tell(0, 1, 0)]), [1, 2])

    def test_a_second_whole(self):
        self.assertEqual(ask([tell(0, 1, 0), tell(0, 2, 0)]), [1, -17])

    def test_a_second_whole_behind_other_pieces(self):
        self.assertEqual(ask([tell(0, 3, 1), tell(0, 1, 0), tell(0, 4, 3), tell(0, 2, 0)]), [1, 2, 3, -17])

    def test_the_whole_told_again(self):
        self.assertEqual(ask([tell(0, 1, 0), tell(0, 1, 0)]), [1, -17])

    def test_the_same_id_in_another_request_is_allowed(self):
        rows = [tell(0, 2, 1), tell(1, 2, 1), tell(15, 2, 1), tell(1, 2, 1)]
        self.assertEqual(ask(rows), [1, 1, 1, -17])

    def test_a_whole_in_another_request_is_allowed(self):
        rows = [tell(0, 1, 0), tell(1, 2, 0), tell(15, 1, 0), tell(15, 2, 0)]
        self.assertEqual(ask(rows), [1, 1, 1, -17])


class GoingRound(unittest.TestCase):
    def test_in_one_step(self):
        self.assertEqual(ask([tell(0, 1, 2), tell(0, 2, 1)]), [1, -41])

    def test_in_two_steps(self):
        self.assertEqual(ask([tell(0, 1, 2), tell(0, 2, 3), tell(0, 3, 1)]), [1, 2, -41])

    def test_in_two_steps_told_from_outside_in(self):
        self.assertEqual(ask([tell(0, 2, 3), tell(0, 1, 2), tell(0, 3, 1)]), [1, 2, -41])

    def test_in_many_steps(self):
        for count in (3, 10, 63):
            self.assertEqual(last(chain(0, count) + [tell(0, count + 1, 1)]), -41)

    def test_in_many_steps_from_the_midst_of_a_chain(self):
        self.assertEqual(last(chain(0, 40) + [tell(0, 41, 20)]), -41)

    def test_at_the_last_of_several_pieces_between(self):
        rows = [tell(0, 4, 5), tell(0, 1, 2), tell(0, 3, 4), tell(0, 2, 3), tell(0, 5, 1)]
        self.assertEqual(ask(rows), [1, 2, 3, 4, -41])

    def test_with_the_largest_ids(self):
        self.assertEqual(ask([tell(0, BIGGEST, 1), tell(0, 1, BIGGEST)]), [1, -41])

    def test_the_same_id_may_be_told_elsewhere(self):
        rows = [tell(0, 1, 2), tell(0, 2, 1), tell(0, 2, 3), tell(0, 3, 1), tell(0, 3, 0)]
        self.assertEqual(ask(rows), [1, -41, 2, -41, 3])

    def test_the_pieces_of_another_request_do_not_matter(self):
        self.assertEqual(ask([tell(0, 1, 2), tell(1, 2, 1), tell(1, 1, 2)]), [1, 1, -41])

    def test_two_branches_that_meet_do_not_go_round(self):
        rows = [tell(0, 1, 9), tell(0, 2, 9), tell(0, 3, 1), tell(0, 4, 2), tell(0, 9, 0)]
        self.assertEqual(ask(rows), [1, 2, 3, 4, 5])

    def test_a_piece_beside_a_chain_is_allowed(self):
        self.assertEqual(last(chain(0, 63) + [tell(0, 65, 1)]), 64)


class TooMany(unittest.TestCase):
    def test_the_64th_is_told_and_the_65th_refused(self):
        self.assertEqual(ask(filled(0) + [tell(0, 65, 1)])[-3:], [63, 64, -28])

    def test_refused_again_and_again(self):
        self.assertEqual(ask(filled(0) + [tell(0, 65, 1), tell(0, 65, 1), tell(0, 66, 0)])[-3:], [-28] * 3)

    def test_other_requests_still_take_theirs(self):
        rows = filled(0) + [tell(0, 65, 1)] + filled(15) + [tell(15, 65, 1), tell(7, 65, 1)]
        counts = list(range(1, 65))
        self.assertEqual(ask(rows), counts + [-28] + counts + [-28, 1])

    def test_refused_tells_do_not_fill_a_request(self):
        refused = [tell(0, 1, 2, kind=64), tell(0, 1, 3), tell(0, 2, 1)] * 20
        rows = [tell(0, 1, 2)] + refused + filled(0, 63, first=3)
        self.assertEqual(ask(rows), [1] + [-22, -17, -41] * 20 + list(range(2, 65)))


class OrderOfRefusals(unittest.TestCase):
    def test_22_ahead_of_17(self):
        told = [tell(0, 1, 0), tell(0, 2, 1)]
        for wrong in (tell(0, 2, 2), tell(0, 2, 1, 5, 4), tell(0, 2, 1, kind=64), tell(0, 3, 0, 5, 4),
                      tell(0, 0, 0), tell(0, 3, 0, kind=64), tell(16, 2, 1)):
            self.assertEqual(last(told + [wrong]), -22)

    def test_22_ahead_of_41(self):
        for wrong in (tell(0, 2, 1, 5, 4), tell(0, 2, 1, kind=64), tell(0, 2, 2), tell(16, 2, 1)):
            self.assertEqual(last([tell(0, 1, 2), wrong]), -22)

    def test_22_ahead_of_28(self):
        for wrong in (tell(0, 65, 1, 5, 4), tell(0, 65, 1, kind=64), tell(0, 65, 65), tell(0, 0, 1),
                      tell(16, 65, 1)):
            self.assertEqual(last(filled(0) + [wrong]), -22)

    def test_17_ahead_of_41(self):
        told = [tell(0, 1, 0), tell(0, 2, 1), tell(0, 3, 2)]
        self.assertEqual(last(told + [tell(0, 1, 2)]), -17)
        self.assertEqual(last(told + [tell(0, 1, 3)]), -17)

    def test_17_ahead_of_28(self):
        told = [tell(0, 100, 0)] + filled(0, 63)
        self.assertEqual(last(told + [tell(0, 5, 1)]), -17)
        self.assertEqual(last(told + [tell(0, 101, 0)]), -17)

    def test_41_ahead_of_28(self):
        self.assertEqual(last(filled(0) + [tell(0, BIGGEST, 1)]), -41)
        self.assertEqual(last(chain(0, 64) + [tell(0, 65, 1)]), -41)

    def test_all_four_due(self):
        told = [tell(0, 1, 0)] + [tell(0, k, k - 1) for k in range(2, 65)]
        self.assertEqual(last(told + [tell(0, 1, 64, 5, 4)]), -22)
        self.assertEqual(last(told + [tell(0, 1, 64)]), -17)


class RefusalsChangeNothing(unittest.TestCase):
    def test_22_keeps_neither_the_piece_nor_the_whole(self):
        for wrong in (tell(0, 1, 0, 5, 4), tell(0, 1, 0, kind=64), tell(0, 1, 1), tell(0, 0, 0)):
            rows = [wrong, apart(0), tell(0, 1, 0), tell(0, 2, 1), apart(0)]
            self.assertEqual(ask(rows), [-22, 0, 1, 2, 0])

    def test_22_for_a_request_above_15_reaches_no_other(self):
        rows = [tell(16, 1, 0), tell(31, 1, 0)] + [apart(request) for request in range(16)]
        rows = rows + [tell(request, 1, 0) for request in range(16)]
        self.assertEqual(ask(rows), [-22, -22] + [0] * 16 + [1] * 16)

    def test_17_for_an_id_keeps_what_was_told_first(self):
        rows = [tell(0, 2, 1), tell(0, 2, 0), tell(0, 2, 3), apart(0), tell(0, 1, 0), apart(0)]
        self.assertEqual(ask(rows), [1, -17, -17, 1, 2, 0])

    def test_17_for_a_second_whole_keeps_the_first(self):
        rows = [tell(0, 1, 0), tell(0, 2, 0), tell(0, 3, 2), tell(0, 4, 1), apart(0), tell(0, 2, 1), apart(0)]
        self.assertEqual(ask(rows), [1, -17, 2, 3, 1, 4, 0])

    def test_41_keeps_nothing(self):
        rows = [tell(0, 1, 2), tell(0, 2, 1), apart(0), tell(0, 2, 0), apart(0)]
        self.assertEqual(ask(rows), [1, -41, 1, 2, 0])

    def test_28_keeps_neither_the_piece_nor_the_whole(self):
        rows = filled(0) + [tell(0, BIGGEST, 0), apart(0), tell(0, 65, 0), tell(0, BIGGEST, 0), apart(0)]
        self.assertEqual(ask(rows)[-5:], [-28, 64, -28, -28, 64])


class HowMany(unittest.TestCase):
    def test_counts_each_request_by_itself(self):
        rows = [tell(0, 1, 0), tell(1, 1, 0), tell(0, 2, 1), tell(0, 3, 9), tell(1, 2, 1), tell(2, 5, 4)]
        self.assertEqual(ask(rows), [1, 1, 2, 3, 2, 1])

    def test_counts_pieces_that_do_not_lie_within_the_whole(self):
        self.assertEqual(ask([tell(0, 5, 4), tell(0, 1, 0), tell(0, 6, 9)]), [1, 2, 3])

    def test_counts_on_behind_a_refusal(self):
        self.assertEqual(ask([tell(0, 1, 0), tell(0, 1, 0), tell(0, 2, 2), tell(0, 2, 1)]), [1, -17, -22, 2])


if __name__ == "__main__":
    unittest.main()
