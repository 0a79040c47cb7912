"""Promise 2, decode: -2 if bits is not 6 to 8; else how many bytes, and two samples for each."""

import unittest

from helper import (LEAST, MOST, answered, bursts, cut, decode, encode, expected, joined,
                    some_bytes, triangle)
from twobands.ends import answers

EVERY = list(range(256))
ALL_BITS = (8, 7, 6)
REFUSED = (5, 9, 0, -1, -6, -8, 16, 64, LEAST, MOST)


class Answer(unittest.TestCase):
    def check(self, *calls):
        self.assertEqual(answered(*calls), expected(*calls))

    def test_no_bytes(self):
        for bits in ALL_BITS:
            self.assertEqual(answers([1, 3, bits, 0]), [1, 0, 1, 0])

    def test_no_bytes_change_nothing(self):
        for bits in ALL_BITS:
            first, second = decode(bits, some_bytes(60)), decode(bits, some_bytes(60, 2))
            none = [decode(other, []) for other in ALL_BITS]
            parts = answered(*none, first, *none, second)
            self.assertEqual([parts[3], parts[7]], answered(first, second))

    def test_a_few_bytes(self):
        row = [250, 61, 130, 7, 199, 32, 4, 96, 33, 160, 255, 0]
        for bits in ALL_BITS:
            with self.subTest(bits=bits):
                self.assertEqual(answered(decode(bits, row)), [A_FEW[bits]])

    def test_every_byte_by_itself(self):
        # Behind it the rest that brings the pair through all 24 numbers x.
        for bits in ALL_BITS:
            for byte in EVERY:
                self.check(decode(bits, [byte] + [0] * 12))

    def test_every_byte_behind_loud_ones(self):
        for bits in ALL_BITS:
            loud = decode(bits, [32, 33, 4, 200, 100, 36, 9] * 9)
            for byte in EVERY:
                self.check(loud, decode(bits, [byte] + [255] * 3))

    def test_every_byte_over_and_over(self):
        for bits in ALL_BITS:
            for byte in EVERY[::3]:
                self.check(decode(bits, [byte] * 90))

    def test_all_bytes_in_a_row(self):
        for bits in ALL_BITS:
            self.check(decode(bits, EVERY), decode(bits, EVERY[::-1]))

    def test_many_bytes(self):
        for bits in ALL_BITS:
            for seed in range(4):
                self.check(decode(bits, some_bytes(900, seed)))

    def test_bits_change_from_call_to_call(self):
        calls = [decode(ALL_BITS[i % 3], some_bytes(1 + i % 17, i)) for i in range(90)]
        self.check(*calls)

    def test_only_the_lowest_bits_are_looked_at(self):
        row = some_bytes(500)
        self.assertEqual(answered(decode(7, row)), answered(decode(7, [byte % 128 for byte in row])))
        self.assertEqual(answered(decode(6, row)), answered(decode(6, [byte % 64 for byte in row])))
        self.assertNotEqual(answered(decode(8, row)), answered(decode(8, [byte % 128 for byte in row])))

    def test_samples_are_held(self):
        for bits, row in ((8, [36, 36, 4, 4]), (7, [16, 16, 2, 2]), (6, [8, 8, 1, 1])):
            samples = answered(decode(bits, row * 100))[0][1:]
            self.assertEqual(min(samples), -32768)
            self.assertEqual(max(samples), 32767)
            self.check(decode(bits, row * 100))

    def check_low_codes(self, codes):
        """The codes as the four highest low bits, with each number of bits."""
        codes = codes + [3, 5, 9, 12, 0, 15] * 4
        for bits, places in ((8, 4), (7, 2), (6, 1)):
            for high in range(4):
                self.check(decode(bits, [(16 * high + code) * places for code in codes]))

    def test_sz_is_held_by_itself(self):
        # sz past 32767 while the rest of s is far on the other side.
        self.check_low_codes([1, 8] * 66 + [14, 9] * 43 + [1] * 12 + [8, 1] * 5)
        self.check_low_codes([4] * 34 + [10, 4] * 90 + [1, 6, 2, 5] * 22 + [1, 1, 1, 2, 1, 1, 8, 8] * 3)

    def test_the_rest_of_s_is_held_by_itself(self):
        self.check_low_codes([15, 7, 11, 15] * 50 + [8, 8, 1, 1] * 20)
        self.check_low_codes([1, 8] * 60 + [8, 8, 8, 1] * 30 + [8, 8, 1, 1] * 20)

    def test_what_was_encoded_comes_back(self):
        samples = triangle(3000, 40, 9000)
        row = answered(encode(samples))[0][1:]
        for bits, most in ((8, 600), (7, 900), (6, 1600)):
            shifted = [byte >> 8 - bits for byte in row]
            back = answered(decode(bits, shifted))[0][1:]
            # The samples come back 22 later; the first ones are left out, as the bands learn.
            apart = [abs(back[i + 22] - samples[i]) for i in range(400, 2900)]
            self.assertLess(max(apart), most)


class Refusal(unittest.TestCase):
    def test_alone(self):
        for bits in REFUSED:
            with self.subTest(bits=bits):
                self.assertEqual(answers([1, 3, bits, 0]), [1, 0, 1, -2])
                self.assertEqual(answers([1, 3, bits, 3, 1, 2, 3]), [1, 0, 1, -2])

    def test_nothing_changes(self):
        before = (encode(bursts(200)), decode(8, some_bytes(100)))
        behind = (encode(bursts(200, 3)), decode(6, some_bytes(100, 3)))
        without = answered(*before, *behind)
        for bits in REFUSED:
            with self.subTest(bits=bits):
                parts = answered(*before, decode(bits, some_bytes(30, 9)), *behind)
                self.assertEqual(parts, without[:2] + [[-2]] + without[2:])

    def test_nothing_changes_at_the_beginning(self):
        behind = decode(8, some_bytes(100))
        self.assertEqual(answered(decode(5, EVERY), decode(9, EVERY), behind)[2:], answered(behind))

    def test_the_last_bits_that_are_not_refused(self):
        for bits in ALL_BITS:
            self.assertEqual(answered(decode(bits, [250]))[0][0], 1)


class Cut(unittest.TestCase):
    def check_cut(self, bits, row, *all_sizes):
        whole = answered(decode(bits, row))[0]
        for sizes in all_sizes:
            with self.subTest(bits=bits, sizes=sizes):
                pieces = [decode(bits, piece) for piece in cut(row, sizes)]
                self.assertEqual(joined(answered(*pieces)), whole)

    def test_cut_as_one_likes(self):
        for bits in ALL_BITS:
            row = some_bytes(390, bits)
            self.check_cut(bits, row, [1], [1, 2, 3], [200], [389, 1], [1, 389], [0, 7, 0, 25])

    def test_a_long_one_cut(self):
        for bits in ALL_BITS:
            self.check_cut(bits, some_bytes(9000, bits), [50], [1, 999], [4500])


class TwoEnds(unittest.TestCase):
    def test_the_ends_do_not_touch_one_another(self):
        encodes = [encode(bursts(2 * (i % 9), i)) for i in range(60)]
        decodes = [decode(ALL_BITS[i % 3], some_bytes(i % 11, i)) for i in range(60)]
        mixed = [call for pair in zip(encodes, decodes) for call in pair]
        parts = answered(*mixed)
        self.assertEqual(parts[0::2], answered(*encodes))
        self.assertEqual(parts[1::2], answered(*decodes))

    def test_one_end_behind_the_other(self):
        loud, noisy = encode(bursts(600)), decode(8, some_bytes(600))
        self.assertEqual(answered(loud, noisy), answered(loud) + answered(noisy))
        self.assertEqual(answered(noisy, loud), answered(noisy) + answered(loud))


A_FEW = {
    8: [
        12, 0, -1, -1, 0, -1, -1, 0, 0, -1, -2, 0, 2, 0, 3, 8, -35, -8, 62, -64, -334, 39, 765,
        101, -1627,
    ],
    7: [
        12, 0, -1, -1, 0, -1, -1, 0, -1, -1, 0, 0, 1, 5, 6, -7, -44, -47, -49, -46, -73, -51, -10,
        -28, -117,
    ],
    6: [
        12, 0, -1, -1, 0, 0, -1, 0, 0, -1, -2, 3, 11, 17, 13, -6, -31, -25, -19, 0, -25, -10, -5,
        -14, -48,
    ],
}


if __name__ == "__main__":
    unittest.main()
