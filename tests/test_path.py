import itertools
import unittest

from tests.asking import BEGIN, BIGGEST, ask_lists, filled, parts, path, tell


def whole(since=0, to=100):
    return tell(0, 1, 0, since, to)


class Refusals(unittest.TestCase):
    def test_request_above_15(self):
        self.assertEqual(ask_lists([path(16), path(17), path(BIGGEST)]), [[-22]] * 3)

    def test_request_up_to_15_is_allowed(self):
        rows = [row for request in range(16) for row in (tell(request, 1, 0, 3, 4), path(request))]
        self.assertEqual(ask_lists(rows), [[1], [1, 1, 3, 4]] * 16)

    def test_no_pieces(self):
        self.assertEqual(ask_lists([path(request) for request in range(16)]), [[-2]] * 16)

    def test_pieces_without_a_whole(self):
        self.assertEqual(ask_lists([tell(0, 2, 1), tell(0, 3, 2), path(0)]), [[1], [2], [-2]])
        self.assertEqual(ask_lists(filled(0) + [path(0)])[-1], [-2])

    def test_the_whole_of_another_request_is_not_this_ones(self):
        self.assertEqual(ask_lists([tell(1, 1, 0), tell(0, 2, 1), path(0)])[-1], [-2])

    def test_a_whole_that_was_refused_is_not_told(self):
        self.assertEqual(ask_lists([tell(0, 1, 0, 5, 4), path(0)]), [[-22], [-2]])

    def test_begin_forgets_the_whole(self):
        self.assertEqual(ask_lists([whole(), path(0), BEGIN, path(0)]), [[1], [1, 1, 0, 100], [0], [-2]])

    def test_it_changes_nothing(self):
        rows = [path(0), path(16), whole(), path(16), path(0), tell(0, 2, 1, 0, 50), path(0), path(0)]
        expected = [[-2], [-22], [1], [-22], [1, 1, 0, 100], [2], [2, 2, 0, 50, 1, 50, 100], [2, 2, 0, 50, 1, 50, 100]]
        self.assertEqual(ask_lists(rows), expected)


class TheWhole(unittest.TestCase):
    def test_alone(self):
        self.assertEqual(parts([tell(0, 7, 0, 10, 30)]), [(7, 10, 30)])

    def test_over_at_once(self):
        self.assertEqual(ask_lists([whole(5, 5), path(0)]), [[1], [0]])

    def test_over_at_once_with_pieces_within(self):
        rows = [whole(5, 5), tell(0, 2, 1, 0, 10), tell(0, 3, 1, 5, 5), tell(0, 4, 2, 0, 10)]
        self.assertEqual(ask_lists(rows + [path(0)])[-1], [0])

    def test_one_moment_long(self):
        self.assertEqual(parts([whole(5, 6)]), [(1, 5, 6)])

    def test_the_largest_times(self):
        self.assertEqual(parts([whole(0, BIGGEST)]), [(1, 0, BIGGEST)])
        self.assertEqual(parts([whole(BIGGEST - 1, BIGGEST)]), [(1, BIGGEST - 1, BIGGEST)])
        self.assertEqual(parts([whole(BIGGEST, BIGGEST)]), [])

    def test_the_largest_times_of_pieces_within(self):
        rows = [tell(0, BIGGEST, 0, 0, BIGGEST), tell(0, BIGGEST - 1, BIGGEST, BIGGEST - 1, BIGGEST),
                tell(0, 3, BIGGEST, 0, 1)]
        expected = [(3, 0, 1), (BIGGEST, 1, BIGGEST - 1), (BIGGEST - 1, BIGGEST - 1, BIGGEST)]
        self.assertEqual(parts(rows), expected)


class OneBehindAnother(unittest.TestCase):
    def test_one_in_the_middle(self):
        self.assertEqual(parts([whole(), tell(0, 2, 1, 20, 50)]), [(1, 0, 20), (2, 20, 50), (1, 50, 100)])

    def test_one_at_the_beginning(self):
        self.assertEqual(parts([whole(), tell(0, 2, 1, 0, 50)]), [(2, 0, 50), (1, 50, 100)])

    def test_one_at_the_end(self):
        self.assertEqual(parts([whole(), tell(0, 2, 1, 50, 100)]), [(1, 0, 50), (2, 50, 100)])

    def test_one_as_long_as_the_whole(self):
        self.assertEqual(parts([whole(), tell(0, 2, 1, 0, 100)]), [(2, 0, 100)])

    def test_with_time_between(self):
        rows = [whole(), tell(0, 2, 1, 10, 20), tell(0, 3, 1, 30, 60)]
        self.assertEqual(parts(rows), [(1, 0, 10), (2, 10, 20), (1, 20, 30), (3, 30, 60), (1, 60, 100)])

    def test_the_end_of_one_is_where_the_next_begins(self):
        rows = [whole(), tell(0, 2, 1, 10, 40), tell(0, 3, 1, 40, 60)]
        self.assertEqual(parts(rows), [(1, 0, 10), (2, 10, 40), (3, 40, 60), (1, 60, 100)])

    def test_without_time_between_and_filling_the_whole(self):
        rows = [whole(), tell(0, 2, 1, 50, 100), tell(0, 3, 1, 20, 50), tell(0, 4, 1, 0, 20)]
        self.assertEqual(parts(rows), [(4, 0, 20), (3, 20, 50), (2, 50, 100)])

    def test_one_moment_between(self):
        rows = [whole(), tell(0, 2, 1, 0, 40), tell(0, 3, 1, 41, 100)]
        self.assertEqual(parts(rows), [(2, 0, 40), (1, 40, 41), (3, 41, 100)])


class SideBySide(unittest.TestCase):
    def test_two_that_overlap(self):
        rows = [whole(), tell(0, 2, 1, 10, 60), tell(0, 3, 1, 40, 90)]
        self.assertEqual(parts(rows), [(1, 0, 10), (2, 10, 40), (3, 40, 90), (1, 90, 100)])

    def test_two_that_overlap_with_the_ids_the_other_way_round(self):
        rows = [whole(), tell(0, 3, 1, 10, 60), tell(0, 2, 1, 40, 90)]
        self.assertEqual(parts(rows), [(1, 0, 10), (3, 10, 40), (2, 40, 90), (1, 90, 100)])

    def test_one_that_begins_first_and_ends_last_hides_the_other(self):
        rows = [whole(), tell(0, 2, 1, 30, 60), tell(0, 3, 1, 10, 90)]
        self.assertEqual(parts(rows), [(1, 0, 10), (3, 10, 90), (1, 90, 100)])

    def test_looked_at_anew_one_that_overlapped_still_has_some_time(self):
        rows = [whole(), tell(0, 2, 1, 5, 95), tell(0, 3, 1, 60, 96), tell(0, 4, 1, 20, 40)]
        self.assertEqual(parts(rows), [(1, 0, 5), (2, 5, 60), (3, 60, 96), (1, 96, 100)])

    def test_looked_at_anew_ends_are_cut_anew(self):
        # On the time before 60 both 2 and 3 end at 60, though 3 ends behind 2: the one that begins first is next.
        rows = [whole(), tell(0, 2, 1, 10, 70), tell(0, 3, 1, 30, 80), tell(0, 4, 1, 60, 90)]
        self.assertEqual(parts(rows), [(1, 0, 10), (2, 10, 60), (4, 60, 90), (1, 90, 100)])

    def test_looked_at_anew_in_several_steps(self):
        rows = [whole(), tell(0, 2, 1, 0, 30), tell(0, 3, 1, 20, 50), tell(0, 4, 1, 40, 70), tell(0, 5, 1, 60, 90)]
        self.assertEqual(parts(rows), [(2, 0, 20), (3, 20, 40), (4, 40, 60), (5, 60, 90), (1, 90, 100)])

    def test_what_lies_within_one_that_overlapped_is_cut_with_it(self):
        rows = [whole(), tell(0, 2, 1, 10, 60), tell(0, 3, 1, 40, 90), tell(0, 4, 2, 20, 50), tell(0, 5, 2, 45, 60)]
        self.assertEqual(parts(rows), [(1, 0, 10), (2, 10, 20), (4, 20, 40), (3, 40, 90), (1, 90, 100)])


class EndingTogether(unittest.TestCase):
    def test_the_one_that_begins_first_is_the_last_one(self):
        for early, late in ((2, 3), (3, 2)):
            rows = [whole(), tell(0, early, 1, 20, 80), tell(0, late, 1, 40, 80)]
            self.assertEqual(parts(rows), [(1, 0, 20), (early, 20, 80), (1, 80, 100)])
            self.assertEqual(parts(rows[::-1]), [(1, 0, 20), (early, 20, 80), (1, 80, 100)])

    def test_of_several_that_begin_together_that_with_the_least_id(self):
        told = [whole()] + [tell(0, piece_id, 1, 20, 80) for piece_id in (9, 4, 30)]
        for order in itertools.permutations(told):
            self.assertEqual(parts(list(order)), [(1, 0, 20), (4, 20, 80), (1, 80, 100)])

    def test_a_least_id_does_not_outweigh_an_earlier_beginning_or_a_later_end(self):
        rows = [whole(), tell(0, 2, 1, 21, 80), tell(0, 3, 1, 20, 80)]
        self.assertEqual(parts(rows), [(1, 0, 20), (3, 20, 80), (1, 80, 100)])
        rows = [whole(), tell(0, 2, 1, 20, 80), tell(0, 3, 1, 20, 81)]
        self.assertEqual(parts(rows), [(1, 0, 20), (3, 20, 81), (1, 81, 100)])

    def test_ends_beyond_hi_are_taken_for_hi_so_that_the_beginnings_decide(self):
        rows = [whole(), tell(0, 2, 1, 50, 200), tell(0, 3, 1, 30, 150)]
        self.assertEqual(parts(rows), [(1, 0, 30), (3, 30, 100)])
        rows = [whole(), tell(0, 2, 1, 50, 200), tell(0, 3, 1, 30, 100)]
        self.assertEqual(parts(rows), [(1, 0, 30), (3, 30, 100)])

    def test_ends_beyond_hi_and_beginnings_together_so_that_the_ids_decide(self):
        rows = [whole(), tell(0, 3, 1, 30, 200), tell(0, 2, 1, 30, 150)]
        self.assertEqual(parts(rows), [(1, 0, 30), (2, 30, 100)])

    def test_beginnings_before_lo_are_not_taken_for_lo(self):
        rows = [whole(10, 20), tell(0, 2, 1, 5, 30), tell(0, 3, 1, 0, 25)]
        self.assertEqual(parts(rows), [(3, 10, 20)])

    def test_the_end_that_counts_is_that_of_the_stretch_not_of_the_whole(self):
        rows = [whole(), tell(0, 2, 1, 0, 50), tell(0, 3, 2, 20, 90), tell(0, 4, 2, 10, 60)]
        self.assertEqual(parts(rows), [(2, 0, 10), (4, 10, 50), (1, 50, 100)])


class BeyondTheOuterOne(unittest.TestCase):
    def test_begins_before(self):
        self.assertEqual(parts([whole(10, 20), tell(0, 2, 1, 0, 15)]), [(2, 10, 15), (1, 15, 20)])

    def test_ends_behind(self):
        self.assertEqual(parts([whole(10, 20), tell(0, 2, 1, 15, 90)]), [(1, 10, 15), (2, 15, 20)])

    def test_both(self):
        self.assertEqual(parts([whole(10, 20), tell(0, 2, 1, 0, 90)]), [(2, 10, 20)])

    def test_wholly_before_or_behind(self):
        for since, to in ((0, 5), (0, 10), (20, 30), (25, 30)):
            self.assertEqual(parts([whole(10, 20), tell(0, 2, 1, since, to)]), [(1, 10, 20)])

    def test_beyond_a_piece_that_is_not_the_whole(self):
        rows = [whole(), tell(0, 2, 1, 30, 60), tell(0, 3, 2, 10, 40), tell(0, 4, 2, 50, 90)]
        self.assertEqual(parts(rows), [(1, 0, 30), (3, 30, 40), (2, 40, 50), (4, 50, 60), (1, 60, 100)])

    def test_an_inner_one_at_work_only_while_its_outer_one_is_not(self):
        rows = [whole(), tell(0, 2, 1, 30, 60), tell(0, 3, 2, 70, 90)]
        self.assertEqual(parts(rows), [(1, 0, 30), (2, 30, 60), (1, 60, 100)])

    def test_within_one_that_is_beyond(self):
        rows = [whole(10, 20), tell(0, 2, 1, 0, 90), tell(0, 3, 2, 5, 12), tell(0, 4, 2, 18, 50), tell(0, 5, 2, 0, 9)]
        self.assertEqual(parts(rows), [(3, 10, 12), (2, 12, 18), (4, 18, 20)])


class OverAtOnce(unittest.TestCase):
    def test_at_the_beginning_in_the_middle_and_at_the_end(self):
        for moment in (0, 50, 100):
            self.assertEqual(parts([whole(), tell(0, 2, 1, moment, moment)]), [(1, 0, 100)])

    def test_before_and_behind(self):
        for moment in (9, 21):
            self.assertEqual(parts([whole(10, 20), tell(0, 2, 1, moment, moment)]), [(1, 10, 20)])

    def test_within_and_at_the_edges_of_another_piece(self):
        for moment in (20, 30, 50):
            for within in (1, 2):
                rows = [whole(), tell(0, 2, 1, 20, 50), tell(0, 3, within, moment, moment)]
                self.assertEqual(parts(rows), [(1, 0, 20), (2, 20, 50), (1, 50, 100)])

    def test_what_lies_within_one_that_is_over_at_once(self):
        rows = [whole(), tell(0, 2, 1, 50, 50), tell(0, 3, 2, 0, 100)]
        self.assertEqual(parts(rows), [(1, 0, 100)])


class Within(unittest.TestCase):
    def test_a_piece_within_a_piece_within_a_piece(self):
        rows = [whole(), tell(0, 2, 1, 10, 90), tell(0, 3, 2, 20, 80), tell(0, 4, 3, 30, 70)]
        expected = [(1, 0, 10), (2, 10, 20), (3, 20, 30), (4, 30, 70), (3, 70, 80), (2, 80, 90), (1, 90, 100)]
        self.assertEqual(parts(rows), expected)

    def test_pieces_within_each_of_two(self):
        rows = [whole(), tell(0, 2, 1, 0, 40), tell(0, 3, 1, 50, 100), tell(0, 4, 2, 10, 20), tell(0, 5, 3, 60, 100)]
        expected = [(2, 0, 10), (4, 10, 20), (2, 20, 40), (1, 40, 50), (3, 50, 60), (5, 60, 100)]
        self.assertEqual(parts(rows), expected)

    def test_what_lies_within_a_hidden_piece_has_no_part(self):
        rows = [whole(), tell(0, 2, 1, 0, 100), tell(0, 3, 1, 20, 80), tell(0, 4, 3, 30, 70)]
        self.assertEqual(parts(rows), [(2, 0, 100)])

    def test_pieces_told_in_another_order(self):
        told = [whole(), tell(0, 2, 1, 10, 60), tell(0, 3, 1, 40, 90), tell(0, 4, 2, 20, 30), tell(0, 5, 3, 40, 90),
                tell(0, 6, 5, 50, 95)]
        expected = [(1, 0, 10), (2, 10, 20), (4, 20, 30), (2, 30, 40), (5, 40, 50), (6, 50, 90), (1, 90, 100)]
        for order in itertools.permutations(told):
            self.assertEqual(parts(list(order)), expected)

    def test_pieces_that_do_not_lie_within_the_whole_have_no_part(self):
        rows = [whole(), tell(0, 2, 1, 20, 50), tell(0, 5, 9, 0, 100), tell(0, 6, 5, 10, 90), tell(0, 7, BIGGEST, 0, 5)]
        self.assertEqual(parts(rows), [(1, 0, 20), (2, 20, 50), (1, 50, 100)])

    def test_pieces_join_as_soon_as_what_they_lie_within_is_told(self):
        rows = [tell(0, 3, 2, 30, 40), whole(), path(0), tell(0, 2, 1, 20, 50), path(0)]
        expected = [[1], [2], [1, 1, 0, 100], [3], [5, 1, 0, 20, 2, 20, 30, 3, 30, 40, 2, 40, 50, 1, 50, 100]]
        self.assertEqual(ask_lists(rows), expected)

    def test_pieces_refused_for_going_round_have_no_part(self):
        rows = [whole(), tell(0, 2, 3, 0, 100), tell(0, 3, 2, 0, 100), path(0)]
        self.assertEqual(ask_lists(rows), [[1], [2], [-41], [1, 1, 0, 100]])

    def test_a_refused_tell_changes_no_part(self):
        rows = [whole(), tell(0, 2, 1, 20, 50), tell(0, 2, 1, 0, 100), tell(0, 3, 0, 0, 200), path(0)]
        self.assertEqual(ask_lists(rows)[2:], [[-17], [-17], [3, 1, 0, 20, 2, 20, 50, 1, 50, 100]])

    def test_each_request_by_itself(self):
        rows = [whole(), tell(1, 1, 0, 5, 9), tell(1, 2, 1, 6, 7), tell(0, 3, 1, 0, 50), path(0), path(1), path(2)]
        expected = [[2, 3, 0, 50, 1, 50, 100], [3, 1, 5, 6, 2, 6, 7, 1, 7, 9], [-2]]
        self.assertEqual(ask_lists(rows)[-3:], expected)


class Many(unittest.TestCase):
    def nested(self):
        return [tell(0, k, k - 1, k, 1000 - k) for k in range(1, 65)]

    def test_64_each_right_within_the_one_before(self):
        inwards = [(k, k, k + 1) for k in range(1, 64)]
        outwards = [(k, 999 - k, 1000 - k) for k in range(63, 0, -1)]
        expected = inwards + [(64, 64, 936)] + outwards
        self.assertEqual(parts(self.nested()), expected)
        self.assertEqual(parts(self.nested()[::-1]), expected)

    def test_64_nested_and_all_as_long_as_the_whole(self):
        self.assertEqual(parts([tell(0, k, k - 1, 0, BIGGEST) for k in range(1, 65)]), [(64, 0, BIGGEST)])

    def test_64_side_by_side_with_time_between(self):
        beside = [tell(0, k, 1, 10 * k, 10 * k + 5) for k in range(2, 65)]
        expected = [(1, 0, 20)]
        for k in range(2, 65):
            expected += [(k, 10 * k, 10 * k + 5), (1, 10 * k + 5, 10 * k + 10)]
        self.assertEqual(parts([whole(0, 650)] + beside), expected)
        self.assertEqual(parts(beside[::-1] + [whole(0, 650)]), expected)

    def test_64_side_by_side_each_overlapping_the_next(self):
        beside = [tell(0, k, 1, 10 * k, 10 * k + 15) for k in range(2, 65)]
        expected = [(1, 0, 20)] + [(k, 10 * k, 10 * k + 10) for k in range(2, 64)] + [(64, 640, 655), (1, 655, 700)]
        self.assertEqual(parts([whole(0, 700)] + beside), expected)
        self.assertEqual(parts(beside[::-1] + [whole(0, 700)]), expected)

    def test_64_side_by_side_each_overlapping_the_next_two(self):
        # Of the two that are cut at the same end the one that begins first is the last one, so each other is hidden.
        beside = [tell(0, k, 1, 10 * k, 10 * k + 25) for k in range(2, 65)]
        expected = [(1, 0, 20)] + [(k, 10 * k, 10 * k + 20) for k in range(2, 64, 2)] + [(64, 640, 665), (1, 665, 700)]
        self.assertEqual(parts([whole(0, 700)] + beside), expected)

    def test_64_side_by_side_at_the_same_time(self):
        beside = [tell(0, k, 1, 10, 20) for k in range(64, 1, -1)]
        self.assertEqual(parts([whole()] + beside), [(1, 0, 10), (2, 10, 20), (1, 20, 100)])


if __name__ == "__main__":
    unittest.main()
