import contextlib
import io
import unittest

from tests.asking import BEGIN, apart, flat, split, tell
from timewent.pieces import answers


class Untouchable(list):
    """A list that fails the test as soon as somebody changes it, though it be undone later."""

    def refuse(self, *args, **kwargs):
        raise AssertionError("the list handed in was changed")

    append = clear = extend = insert = pop = remove = reverse = sort = refuse
    __setitem__ = __delitem__ = __iadd__ = __imul__ = refuse


SEVERAL = flat([BEGIN, tell(0, 2, 1), apart(0), tell(0, 1, 0), tell(0, 1, 0), apart(0), apart(16)])
SEVERAL_ANSWERED = [1, 0, 1, 1, 1, 1, 1, 2, 1, -17, 1, 0, 1, -22]


class Form(unittest.TestCase):
    def test_one_call(self):
        self.assertEqual(answers([0]), [1, 0])

    def test_several_calls_in_one_list(self):
        self.assertEqual(answers(SEVERAL), SEVERAL_ANSWERED)

    def test_a_list_of_whole_numbers_is_given_back(self):
        given = answers(SEVERAL)
        self.assertIs(type(given), list)
        self.assertEqual({type(number) for number in given}, {int})

    def test_the_order_of_the_numbers_of_tell(self):
        self.assertEqual(answers([0, 1, 15, 64, 16, 100, 200, 63]), [1, 0, 1, 1])
        self.assertEqual(answers([0, 1, 16, 1, 2, 3, 4, 5]), [1, 0, 1, -22])
        self.assertEqual(answers([0, 1, 15, 1, 2, 4, 3, 5]), [1, 0, 1, -22])
        self.assertEqual(answers([0, 1, 1, 2, 0, 3, 4, 5, 1, 1, 3, 0, 3, 4, 5]), [1, 0, 1, 1, 1, -17])

    def test_calls_behind_path_time_and_kind_are_found(self):
        for other in ([3, 16], [4, 16, 1], [5, 64]):
            given = split(answers(flat([BEGIN, tell(0, 2, 1), other, apart(0), other, tell(0, 1, 0)])))
            self.assertEqual(len(given), 6)
            self.assertEqual([given[k] for k in (0, 1, 3, 5)], [[0], [1], [1], [2]])

    def test_400_calls(self):
        told = [tell(request, k, k - 1) for request in range(6) for k in range(1, 65)]
        rows = [BEGIN] + told + [apart(request) for request in range(15)]
        self.assertEqual(len(rows), 400)
        expected = [[0]] + [[k] for request in range(6) for k in range(1, 65)] + [[0]] * 15
        self.assertEqual(split(answers(flat(rows))), expected)

    def test_400_begins(self):
        self.assertEqual(answers([0] * 400), [1, 0] * 400)


class HandedIn(unittest.TestCase):
    def test_the_list_is_the_same_afterwards(self):
        calls = list(SEVERAL)
        answers(calls)
        self.assertEqual(calls, SEVERAL)

    def test_the_list_is_not_changed_for_a_while_either(self):
        calls = Untouchable(SEVERAL)
        self.assertEqual(answers(calls), SEVERAL_ANSWERED)
        self.assertEqual(list(calls), SEVERAL)

    def test_what_is_given_back_is_a_list_of_its_own(self):
        calls = list(SEVERAL)
        first = answers(calls)
        first.clear()
        self.assertEqual(calls, SEVERAL)
        self.assertEqual(answers(calls), SEVERAL_ANSWERED)


class NothingKept(unittest.TestCase):
    def test_the_same_list_twice(self):
        self.assertEqual(answers(SEVERAL), answers(SEVERAL))

    def test_two_lists_do_not_touch_one_another(self):
        one = flat([BEGIN, tell(0, 1, 0), tell(0, 2, 1)])
        other = flat([BEGIN, apart(0), tell(0, 2, 1), apart(0), tell(0, 1, 2)])
        for first, second in ((one, other), (other, one)):
            alone = answers(second)
            answers(first)
            self.assertEqual(answers(second), alone)
        self.assertEqual(split(answers(other)), [[0], [0], [1], [1], [-41]])

    def test_the_object_is_new_at_the_lists_beginning(self):
        # A list begins with a begin; without one, what an earlier list told would show.
        answers(flat([BEGIN, tell(0, 1, 0)]))
        self.assertEqual(answers(flat([tell(0, 1, 0), apart(0)])), [1, 1, 1, 0])

    def test_after_a_list_that_failed(self):
        with self.assertRaises(Exception):
            answers(flat([BEGIN, tell(0, 1, 0), [99]]))
        self.assertEqual(answers(SEVERAL), SEVERAL_ANSWERED)


class Silent(unittest.TestCase):
    def test_nothing_is_printed(self):
        out = io.StringIO()
        with contextlib.redirect_stdout(out), contextlib.redirect_stderr(out):
            answers(SEVERAL)
        self.assertEqual(out.getvalue(), "")


if __name__ == "__main__":
    unittest.main()
