import unittest

from tests.asking import BEGIN, apart, ask, filled, tell


class Begin(unittest.TestCase):
    def test_answers_0(self):
        self.assertEqual(ask([BEGIN, BEGIN]), [0, 0])

    def test_answers_0_behind_other_calls(self):
        self.assertEqual(ask([tell(0, 1, 0), BEGIN]), [1, 0])

    def test_again_forgets_pieces(self):
        rows = [tell(3, 7, 5), apart(3), BEGIN, apart(3), tell(3, 7, 5), apart(3)]
        self.assertEqual(ask(rows), [1, 1, 0, 0, 1, 1])

    def test_again_forgets_the_whole(self):
        rows = [tell(0, 1, 0), tell(0, 2, 1), BEGIN, tell(0, 2, 1), apart(0), tell(0, 9, 0), apart(0)]
        self.assertEqual(ask(rows), [1, 2, 0, 1, 1, 2, 1])

    def test_again_forgets_what_lay_within_what(self):
        rows = [tell(0, 1, 2), tell(0, 2, 1), BEGIN, tell(0, 2, 1)]
        self.assertEqual(ask(rows), [1, -41, 0, 1])

    def test_again_forgets_that_a_request_was_full(self):
        self.assertEqual(ask(filled(0) + [BEGIN, tell(0, 65, 1)])[-2:], [0, 1])

    def test_again_forgets_every_request(self):
        told = [tell(request, 1, 0) for request in range(16)]
        self.assertEqual(ask(told + [BEGIN] + told), [1] * 16 + [0] + [1] * 16)


if __name__ == "__main__":
    unittest.main()
