"""Promise 1: begin answers 0, and both ends are as at first."""

import unittest

from helper import BEGIN, answered, bursts, decode, encode, expected, flat, some_bytes, square
from twobands.ends import answers

LOUD = encode(square(400, 9))
NOISY = decode(8, some_bytes(300))
THEN = (encode(bursts(300, 4)), decode(7, some_bytes(150, 5)), decode(6, some_bytes(20, 6)))


class Begin(unittest.TestCase):
    def test_begin_alone(self):
        self.assertEqual(answers([1]), [1, 0])

    def test_begin_over_and_over(self):
        self.assertEqual(answers([1] * 400), [1, 0] * 400)

    def test_begin_in_the_middle_answers_0(self):
        self.assertEqual(answered(LOUD, BEGIN, NOISY, BEGIN)[1::2], [[0], [0]])

    def check_as_at_first(self, *before):
        self.assertEqual(answered(*before, BEGIN, *THEN)[-len(THEN):], answered(*THEN))

    def test_as_at_first_after_encode(self):
        self.check_as_at_first(LOUD)

    def test_as_at_first_after_decode(self):
        self.check_as_at_first(NOISY)

    def test_as_at_first_after_both(self):
        self.check_as_at_first(LOUD, NOISY)

    def test_as_at_first_after_refusals(self):
        self.check_as_at_first(LOUD, ("encode", -1, []), ("decode", 5, [1, 2]))

    def test_as_at_first_every_time(self):
        round_trip = (BEGIN, *THEN, LOUD, NOISY)
        parts = answered(*(round_trip * 3))
        self.assertEqual(parts[:6], parts[6:12])
        self.assertEqual(parts[:6], parts[12:])

    def test_without_begin_the_ends_go_on(self):
        # Else the tests above would tell nothing.
        after = answered(LOUD, NOISY, *THEN)[-len(THEN):]
        for part, fresh in zip(after, answered(*THEN)):
            self.assertNotEqual(part, fresh)

    def test_against_the_second_reading(self):
        calls = (LOUD, NOISY, BEGIN, *THEN, BEGIN, BEGIN, *THEN, NOISY, LOUD)
        self.assertEqual(answered(*calls), expected(*calls))

    def test_begin_takes_one_place_in_the_list(self):
        self.assertEqual(flat([BEGIN, encode([0, 0]), BEGIN]), [1, 2, 1, 2, 0, 0, 1])
        self.assertEqual(answers([1, 2, 1, 2, 0, 0, 1]), [1, 0, 2, 1, 250, 1, 0])


if __name__ == "__main__":
    unittest.main()
