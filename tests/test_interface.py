import contextlib
import io
import sys
import unittest

from tests.asking import BEGIN, BIGGEST, apart, flat, kind, path, split, tell, time
from timewent.pieces import answers


class Untouchable(list):
    """A list that fails the test as soon as somebody changes it, though it be undone later."""

    def refuse(self, *args, **kwargs):
        raise AssertionError("the list handed in was changed")

    append = clear = extend = insert = pop = remove = reverse = sort = refuse
    __setitem__ = __delitem__ = __iadd__ = __imul__ = refuse


SEVERAL = flat([BEGIN, tell(0, 2, 1, 4, 8, 5), apart(0), path(0), tell(0, 1, 0), tell(0, 1, 0), apart(0), apart(16),
                path(0), time(0, 2), kind(0), path(16), time(0, 3), kind(64), tell(15, 7, 0, 3, 3), path(15), kind(5)])
SEVERAL_ANSWERED = flat([[1, 0], [1, 1], [1, 1], [1, -2], [1, 2], [1, -17], [1, 0], [1, -22],
                         [10, 3, 1, 0, 4, 2, 4, 8, 1, 8, 10], [1, 4], [1, 6], [1, -22], [1, -2], [1, -22],
                         [1, 1], [1, 0], [1, 4]])


class Form(unittest.TestCase):
    def test_one_call(self):
        self.assertEqual(answers([0]), [1, 0])

    def test_several_calls_in_one_list(self):
        self.assertEqual(answers(SEVERAL), SEVERAL_ANSWERED)

    def test_a_list_of_whole_numbers_is_given_back(self):
        given = answers(SEVERAL)
        self.assertIs(type(given), list)
        self.assertEqual({type(number) for number in given}, {int})

    def test_the_order_of_the_numbers_of_tell(self):
        self.assertEqual(answers([0, 1, 15, 64, 16, 100, 200, 63]), [1, 0, 1, 1])
        self.assertEqual(answers([0, 1, 16, 1, 2, 3, 4, 5]), [1, 0, 1, -22])
        self.assertEqual(answers([0, 1, 15, 1, 2, 4, 3, 5]), [1, 0, 1, -22])
        self.assertEqual(answers([0, 1, 1, 2, 0, 3, 4, 5, 1, 1, 3, 0, 3, 4, 5]), [1, 0, 1, 1, 1, -17])

    def test_the_order_of_the_numbers_of_time(self):
        told = [0, 1, 15, 2, 0, 3, 7, 0]
        self.assertEqual(answers(told + [4, 15, 2]), [1, 0, 1, 1, 1, 4])
        self.assertEqual(answers(told + [4, 2, 15]), [1, 0, 1, 1, 1, -2])
        self.assertEqual(answers(told + [4, 16, 2]), [1, 0, 1, 1, 1, -22])

    def test_path_answers_three_numbers_of_each_part_behind_their_count(self):
        told = [0, 1, 0, 9, 0, 100, 200, 1, 1, 0, 8, 9, 150, 300, 2]
        self.assertEqual(answers(told + [3, 0]), [1, 0, 1, 1, 1, 2, 7, 2, 9, 100, 150, 8, 150, 200])

    def test_path_without_parts_answers_one_number(self):
        self.assertEqual(answers([0, 1, 0, 9, 0, 100, 100, 1, 3, 0]), [1, 0, 1, 1, 1, 0])

    def test_refusals_are_one_number_each(self):
        rows = [BEGIN, path(0), path(16), time(0, 1), time(16, 1), kind(64), apart(16), tell(16, 1, 0)]
        self.assertEqual(answers(flat(rows)), [1, 0, 1, -2, 1, -22, 1, -2, 1, -22, 1, -22, 1, -22, 1, -22])

    def test_calls_behind_path_time_and_kind_are_found(self):
        for other in (path(0), path(16), time(0, 1), time(16, 1), kind(0), kind(64)):
            given = split(answers(flat([BEGIN, tell(0, 2, 1), other, apart(0), other, tell(0, 1, 0), other, apart(0)])))
            self.assertEqual(len(given), 8)
            self.assertEqual([given[k] for k in (0, 1, 3, 5, 7)], [[0], [1], [1], [2], [0]])

    def test_400_calls(self):
        told = [tell(request, k, k - 1) for request in range(6) for k in range(1, 65)]
        rows = [BEGIN] + told + [apart(request) for request in range(15)]
        self.assertEqual(len(rows), 400)
        expected = [[0]] + [[k] for request in range(6) for k in range(1, 65)] + [[0]] * 15
        self.assertEqual(split(answers(flat(rows))), expected)

    def test_400_calls_of_all_six_sorts(self):
        told = [tell(3, k, k - 1, k, 1000 - k, 7) for k in range(1, 65)]
        deep = [127] + flat([[k, k, k + 1] for k in range(1, 64)]) + [64, 64, 936]
        deep = deep + flat([[k, 999 - k, 1000 - k] for k in range(63, 0, -1)])
        rows = [BEGIN] + told + [path(3), time(3, 64), kind(7), apart(3), kind(8)] * 67
        self.assertEqual(len(rows), 400)
        expected = [[0]] + [[k] for k in range(1, 65)] + [deep, [872], [998], [0], [0]] * 67
        self.assertEqual(split(answers(flat(rows))), expected)

    def test_the_largest_numbers_in_every_place(self):
        rows = [BEGIN, [1] + [BIGGEST] * 6, apart(BIGGEST), path(BIGGEST), time(BIGGEST, BIGGEST), kind(BIGGEST)]
        self.assertEqual(split(answers(flat(rows))), [[0]] + [[-22]] * 5)

    def test_400_begins(self):
        self.assertEqual(answers([0] * 400), [1, 0] * 400)


class HandedIn(unittest.TestCase):
    def test_the_list_is_the_same_afterwards(self):
        calls = list(SEVERAL)
        answers(calls)
        self.assertEqual(calls, SEVERAL)

    def test_the_list_is_not_changed_for_a_while_either(self):
        calls = Untouchable(SEVERAL)
        self.assertEqual(answers(calls), SEVERAL_ANSWERED)
        self.assertEqual(list(calls), SEVERAL)

    def test_what_is_given_back_is_a_list_of_its_own(self):
        calls = list(SEVERAL)
        first = answers(calls)
        first.clear()
        self.assertEqual(calls, SEVERAL)
        self.assertEqual(answers(calls), SEVERAL_ANSWERED)


class NothingKept(unittest.TestCase):
    def test_the_same_list_twice(self):
        self.assertEqual(answers(SEVERAL), answers(SEVERAL))

    def test_two_lists_do_not_touch_one_another(self):
        one = flat([BEGIN, tell(0, 1, 0), tell(0, 2, 1)])
        other = flat([BEGIN, apart(0), tell(0, 2, 1), apart(0), tell(0, 1, 2)])
        for first, second in ((one, other), (other, one)):
            alone = answers(second)
            answers(first)
            self.assertEqual(answers(second), alone)
        self.assertEqual(split(answers(other)), [[0], [0], [1], [1], [-41]])

    def test_the_parts_of_two_lists_do_not_touch_one_another(self):
        asked = [path(0), time(0, 1), time(0, 2), kind(1), kind(2)]
        one = flat([BEGIN, tell(0, 1, 0, 0, 10, 1), tell(0, 2, 1, 2, 5, 2)] + asked)
        other = flat([BEGIN, tell(0, 2, 0, 5, 9, 1)] + asked)
        for k in range(2):
            self.assertEqual(split(answers(one))[3:], [[3, 1, 0, 2, 2, 2, 5, 1, 5, 10], [7], [3], [7], [3]])
            self.assertEqual(split(answers(other))[2:], [[1, 2, 5, 9], [-2], [4], [4], [0]])
            self.assertEqual(split(answers(flat([BEGIN] + asked)))[1:], [[-2], [-2], [-2], [0], [0]])

    def test_the_object_is_new_at_the_lists_beginning(self):
        # A list begins with a begin; without one, what an earlier list told would show.
        answers(flat([BEGIN, tell(0, 1, 0)]))
        self.assertEqual(answers(flat([tell(0, 1, 0), apart(0)])), [1, 1, 1, 0])

    def test_after_a_list_that_failed(self):
        with self.assertRaises(Exception):
            answers(flat([BEGIN, tell(0, 1, 0), [99]]))
        self.assertEqual(answers(SEVERAL), SEVERAL_ANSWERED)


class ByLoops(unittest.TestCase):
    def depth(self):
        frame = sys._getframe()
        count = 0
        while frame is not None:
            frame = frame.f_back
            count += 1
        return count

    def test_deep_and_long_ones_need_few_calls_within_one_another(self):
        deep = [tell(0, k, k - 1, k, 1000 - k) for k in range(1, 65)]
        wide = [tell(1, 1, 0, 0, 1000)] + [tell(1, k, 1, 10 * k, 10 * k + 15) for k in range(2, 65)]
        asked = [row for request in (0, 1) for row in (path(request), time(request, 64), apart(request))] + [kind(0)]
        calls = flat([BEGIN] + deep + wide + asked * 20)
        expected = answers(calls)
        limit = sys.getrecursionlimit()
        sys.setrecursionlimit(self.depth() + 25)
        try:
            given = answers(calls)
        finally:
            sys.setrecursionlimit(limit)
        self.assertEqual(given, expected)


class Silent(unittest.TestCase):
    def test_nothing_is_printed(self):
        out = io.StringIO()
        with contextlib.redirect_stdout(out), contextlib.redirect_stderr(out):
            answers(SEVERAL)
        self.assertEqual(out.getvalue(), "")


if __name__ == "__main__":
    unittest.main()
