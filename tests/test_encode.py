"""Promise 2, encode: -2 if pairs is not 0 to 65536; else pairs, and a byte for each pair."""

import unittest

from helper import (LEAST, MOST, answered, bursts, cut, decode, encode, encode_refused, expected,
                    joined, noise, some_bytes, square, triangle)
from twobands.ends import answers

REFUSED = (-1, -2, -65536, LEAST, 65537, 65538, 131072, MOST)


class Answer(unittest.TestCase):
    def check(self, *calls):
        self.assertEqual(answered(*calls), expected(*calls))

    def test_no_pairs(self):
        self.assertEqual(answers([1, 2, 0, 0]), [1, 0, 1, 0])

    def test_one_pair_of_nothing(self):
        self.assertEqual(answers([1, 2, 1, 2, 0, 0]), [1, 0, 2, 1, 250])

    def test_ordinary_samples(self):
        samples = [0, 100, 900, 2500, 4200, 5100, 4700, 3000, 300, -2600, -5000, -6400, -6200,
                   -4500, -1500, 2000, 5200, 7400, 8000, 6700, 3800, 0, -4000, -7200]
        self.assertEqual(answered(encode(samples)), [ORDINARY])
        self.check(encode(samples))

    def test_zeros(self):
        self.assertEqual(answered(encode([0] * 32)), [ZEROS])
        self.check(encode([0] * 3000))

    def test_edges(self):
        self.assertEqual(answered(encode([32767] * 24)), [HIGHEST])
        self.assertEqual(answered(encode([-32768] * 24)), [LOWEST])
        self.assertEqual(answered(encode([32767, -32768] * 12)), [TO_AND_FRO])
        for half in (1, 2, 3, 5, 8, 13, 40, 200):
            self.check(encode(square(1600, half)))
        for value in (32767, -32768, 32766, -32767):
            self.check(encode([value] * 1600))

    def test_edges_behind_nothing(self):
        self.check(encode([0] * 300 + [32767] * 2 + [0] * 300 + [-32768] * 2 + [0] * 300))

    def test_every_first_pair_of_these(self):
        values = (-32768, -32767, -9000, -257, -20, -2, -1, 0, 1, 2, 20, 256, 9000, 32766, 32767)
        for first in values:
            for second in values:
                self.check(encode([first, second, second, first, 0, 0]))

    def test_every_loudness(self):
        for power in range(16):
            self.check(encode(noise(800, 2 ** power - 1, power)), encode([0] * 100))

    def test_bursts(self):
        for seed in range(5):
            self.check(encode(bursts(3000, seed)))

    def test_waves(self):
        for half in (2, 3, 4, 7, 16, 61):
            for loudest in (3, 900, 32767):
                self.check(encode(triangle(700, half, loudest)))

    def test_what_a_band_foretells_is_held(self):
        # By turns highest and lowest, so long each; s would run past 32767, and the bytes would differ.
        runs = [22, 2] * 3 + [360, 5, 2, 1, 2, 3, 4, 1, 1, 5, 2, 1, 2, 3, 2]
        samples = []
        for turn, run in enumerate(runs):
            samples += [-32768 if turn % 2 else 32767] * run
        self.check(encode(samples + [0] * 40))

    def test_the_two_samples_of_a_pair_are_in_order(self):
        self.assertNotEqual(answered(encode([0, 9000] * 30)), answered(encode([9000, 0] * 30)))

    def test_every_answer_is_pairs_and_bytes(self):
        answer = answered(encode(bursts(6000)))[0]
        self.assertEqual(len(answer), 3001)
        self.assertEqual(answer[0], 3000)
        self.assertTrue(all(0 <= byte <= 255 for byte in answer[1:]))


class Refusal(unittest.TestCase):
    def test_alone(self):
        for pairs in REFUSED:
            with self.subTest(pairs=pairs):
                self.assertEqual(answers([1, 2, pairs, 0]), [1, 0, 1, -2])

    def test_nothing_changes(self):
        before = (encode(bursts(200)), decode(8, some_bytes(100)))
        behind = (encode(bursts(200, 3)), decode(7, some_bytes(100, 3)))
        without = answered(*before, *behind)
        for pairs in REFUSED:
            with self.subTest(pairs=pairs):
                parts = answered(*before, encode_refused(pairs), *behind)
                self.assertEqual(parts, without[:2] + [[-2]] + without[2:])

    def test_nothing_changes_at_the_beginning(self):
        behind = encode(bursts(100))
        self.assertEqual(answered(encode_refused(-1), encode_refused(65537), behind)[2:],
                         answered(behind))

    def test_the_last_pairs_that_are_not_refused(self):
        # More than a list may hold by the interface, but the promise names the edge.
        answer = answered(encode([0] * 131072))[0]
        self.assertEqual((answer[0], len(answer)), (65536, 65537))


class Cut(unittest.TestCase):
    def check_cut(self, samples, *all_sizes):
        whole = answered(encode(samples))[0]
        for sizes in all_sizes:
            with self.subTest(sizes=sizes):
                pieces = [encode(piece) for piece in cut(samples, sizes)]
                self.assertEqual(joined(answered(*pieces)), whole)

    def test_cut_as_one_likes(self):
        samples = bursts(600) + square(180, 7)
        self.check_cut(samples, [2], [2, 4, 6], [400], [778, 2], [2, 778], [0, 14, 0, 50])

    def test_a_long_one_cut(self):
        self.check_cut(bursts(27000, 3), [100], [2, 1000], [13500], [26998, 2])

    def test_no_pairs_change_nothing(self):
        first, second = encode(bursts(300)), encode(bursts(300, 2))
        parts = answered(encode([]), first, encode([]), encode([]), second)
        self.assertEqual([parts[1], parts[4]], answered(first, second))
        self.assertEqual([parts[0], parts[2], parts[3]], [[0]] * 3)


ORDINARY = [
    12, 250, 222, 122, 48, 178, 20, 160, 32, 160, 160, 4, 70,
]
ZEROS = [
    16, 250, 250, 250, 250, 250, 250, 250, 250, 250, 250, 250, 250, 250, 250, 250, 250,
]
HIGHEST = [
    12, 135, 32, 132, 32, 132, 32, 160, 32, 160, 32, 160, 224,
]
LOWEST = [
    12, 35, 132, 32, 132, 32, 132, 4, 132, 4, 132, 4, 68,
]
TO_AND_FRO = [
    12, 132, 32, 132, 34, 137, 32, 26, 59, 61, 62, 60, 62,
]


if __name__ == "__main__":
    unittest.main()
