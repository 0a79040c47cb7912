"""Lines near the interface's limits, loud and quiet, so that n and t reach both their ends."""

import hashlib
import unittest

from helper import BEGIN, Model, bursts, decode, encode, flat, parted, some_bytes, square
from twobands.ends import answers

LOUD_BYTES = {8: [36, 4], 7: [18, 2], 6: [9, 1]}
QUIET_BYTES = {8: [255, 125], 7: [127, 63], 6: [63, 31]}


def digest(numbers):
    return hashlib.sha256(" ".join(map(str, numbers)).encode()).hexdigest()


class LongLines(unittest.TestCase):
    def check(self, *calls):
        """The second reading as it is behind the calls, for what its bands went through."""
        calls = (BEGIN,) + calls
        numbers = flat(calls)
        self.assertLessEqual(len(numbers), 30000)
        self.assertLessEqual(len(calls), 400)
        model = Model()
        self.assertEqual(parted(answers(numbers)), [model.answer(call) for call in calls])
        return model

    def check_up_and_down(self, numbers, lowest, highest):
        self.assertEqual((min(numbers), max(numbers)), (lowest, highest))
        self.assertIn(lowest, numbers[numbers.index(highest):])

    def check_ends_of_n_and_t(self, end):
        self.check_up_and_down(end.low.all_n, 0, 18432)
        self.check_up_and_down(end.low.all_t, 32, 16384)
        self.check_up_and_down(end.high.all_n, 0, 22528)
        self.check_up_and_down(end.high.all_t, 8, 16384)

    def test_encode_loud_then_quiet(self):
        self.check_ends_of_n_and_t(self.check(encode(square(12000, 9) + [0] * 17900)).encoder)

    def test_decode_loud_then_quiet(self):
        for bits in (8, 7, 6):
            with self.subTest(bits=bits):
                row = LOUD_BYTES[bits] * 5000 + QUIET_BYTES[bits] * 9950
                self.check_ends_of_n_and_t(self.check(decode(bits, row)).decoder)

    def test_one_encode_as_long_as_may_be(self):
        self.check(encode(bursts(29900)))

    def test_one_decode_as_long_as_may_be(self):
        self.check(decode(8, some_bytes(29900)))

    def test_400_calls(self):
        calls = []
        for i in range(133):
            calls += [encode(bursts(146, i)), decode(8 - i % 3, some_bytes(70, i)), ("decode", i - 60, [])]
        self.assertEqual(len(calls), 399)
        self.check(*calls)

    def test_400_calls_with_begins_and_refusals(self):
        calls = []
        for i in range(57):
            calls += [encode(bursts(200, i)), ("encode", -i - 1, []), decode(9, some_bytes(7)),
                      decode(6 + i % 3, some_bytes(150, i)), ("encode", 65537 + i, []),
                      decode(8, [255, 0]), BEGIN if i % 5 == 4 else encode([])]
        self.assertEqual(len(calls), 399)
        self.check(*calls)

    def test_known_digests(self):
        for name, calls in LINES.items():
            with self.subTest(name=name):
                self.assertEqual(digest(answers(flat([BEGIN] + calls))), DIGESTS[name])


LINES = {
    "bursts": [encode(bursts(9000, 2))],
    "square": [encode(square(4000, 11))],
    "eight": [decode(8, some_bytes(3000, 8))],
    "seven": [decode(7, some_bytes(3000, 7))],
    "six": [decode(6, some_bytes(3000, 6))],
}
DIGESTS = {
    "bursts": "7eadea4786f1e3950b4043a61aba93f351a696e32c437d4fb077fe316ec762ca",
    "square": "494143d87528eb60dce31b0d2bbd6cc07c5c9634f5ee30853532359e26c39e56",
    "eight": "4c76a88c6c09d8fe1da57f39179358d42873a132b4d09164ceacbba4e4502eeb",
    "seven": "694f41a3222d451f59d6ef1f11da41795d967bf2a433fc8c96f67666ba3af55e",
    "six": "bbf85ab39b43bf79d69b6c67d0d5b89ee4f4680d594a6864c80e1f582ce7a8ab",
}


if __name__ == "__main__":
    unittest.main()
