"""What the tests share: lines of calls, samples to put into them, and a second reading of the
document (the class Model), written apart from the program and with tables of its own, that the
program's answers are held against."""

from twobands.ends import answers

LEAST = -2147483648
MOST = 2147483647


# Lines of calls. A call is kept as a tuple until it is handed in:
# ("begin",), ("encode", pairs, samples) or ("decode", bits, row).

BEGIN = ("begin",)


def encode(samples):
    return ("encode", len(samples) // 2, list(samples))


def encode_refused(pairs):
    return ("encode", pairs, [])


def decode(bits, row):
    return ("decode", bits, list(row))


def flat(calls):
    numbers = []
    for call in calls:
        if call == BEGIN:
            numbers.append(1)
        else:
            numbers.append({"encode": 2, "decode": 3}[call[0]])
            numbers += [call[1], len(call[2])] + call[2]
    return numbers


def parted(numbers):
    parts = []
    while numbers:
        size = numbers[0]
        assert len(numbers) > size, "an answer is shorter than its count says"
        parts.append(numbers[1:1 + size])
        numbers = numbers[1 + size:]
    return parts


def answered(*calls):
    """The answers to these calls behind a begin, without the begin's own."""
    parts = parted(answers(flat((BEGIN,) + calls)))
    assert len(parts) == len(calls) + 1, "not one answer a call"
    assert parts[0] == [0], "begin did not answer 0"
    return parts[1:]


def expected(*calls):
    """What the second reading answers to the same."""
    model = Model()
    return [model.answer(call) for call in calls]


def cut(numbers, sizes):
    """The numbers in pieces of these sizes, over and over."""
    pieces = []
    at = 0
    while at < len(numbers):
        size = sizes[len(pieces) % len(sizes)]
        pieces.append(numbers[at:at + size])
        at += size
    return pieces


def joined(parts):
    """The answers to the pieces of one row as the answer to the whole row."""
    return [sum(part[0] for part in parts)] + [number for part in parts for number in part[1:]]


# Samples and bytes, the same ones at every run.

def noise(count, loudest, seed=1):
    state = seed
    numbers = []
    for _ in range(count):
        state = (state * 1103515245 + 12345) % 2147483648
        numbers.append((state >> 8) % (2 * loudest + 1) - loudest)
    return numbers


def some_bytes(count, seed=1):
    return [number + 128 & 255 for number in noise(count, 32767, seed)]


def square(count, half, high=32767, low=-32768):
    return [high if i // half % 2 == 0 else low for i in range(count)]


def triangle(count, half, loudest):
    return [(abs(i % (2 * half) - half) * 2 - half) * loudest // half for i in range(count)]


def bursts(count, seed=1):
    """Loud and quiet by turns, so that the bands' widths wander over all they have."""
    numbers = []
    turn = seed
    while len(numbers) < count:
        loudest = (32767, 2, 600, 0, 9000, 40, 20000)[turn % 7]
        numbers += noise(90 + 61 * (turn % 5), loudest, turn)
        numbers += triangle(70 + 37 * (turn % 3), 3 + turn % 23, loudest)
        turn += 1
    return numbers[:count]


# The second reading.

def numbers_of(text):
    return [int(word) for word in text.split()]


FILTER = numbers_of("3 -11 12 32 -210 951 3876 -805 362 -156 53 -11")
LEVELS = numbers_of("""
2048 2093 2139 2186 2233 2282 2332 2383 2435 2489 2543 2599 2656 2714 2774 2834
2896 2960 3025 3091 3158 3228 3298 3371 3444 3520 3597 3676 3756 3838 3922 4008""")
THRESHOLDS = numbers_of("""
35 72 110 150 190 233 276 323 370 422 473 530 587 650 714 786 858 940 1023 1121 1219 1339 1458
1612 1765 1980 2195 2557 2919""")
SIX = numbers_of("""
-136 -136 -136 -136 -24808 -21904 -19008 -16704 -14984 -13512 -12280 -11192 -10232 -9360 -8576
-7856 -7192 -6576 -6000 -5456 -4944 -4464 -4008 -3576 -3168 -2776 -2400 -2032 -1688 -1360 -1040
-728 24808 21904 19008 16704 14984 13512 12280 11192 10232 9360 8576 7856 7192 6576 6000 5456
4944 4464 4008 3576 3168 2776 2400 2032 1688 1360 1040 728 432 136 -432 -136""")
FIVE = numbers_of("""
-280 -280 -23352 -17560 -14120 -11664 -9752 -8184 -6864 -5712 -4696 -3784 -2960 -2208 -1520 -880
23352 17560 14120 11664 9752 8184 6864 5712 4696 3784 2960 2208 1520 880 280 -280""")
FOUR = numbers_of("""
0 -20456 -12896 -8968 -6288 -4240 -2584 -1200 20456 12896 8968 6288 4240 2584 1200 0""")
TWO = numbers_of("-7408 -1616 7408 1616")
GAINS = {
    "low": {0: -60, 1: 3042, 2: 1198, 3: 538, 4: 334, 5: 172, 6: 58, 7: -30,
            8: 3042, 9: 1198, 10: 538, 11: 334, 12: 172, 13: 58, 14: -30, 15: -60},
    "high": {0: 798, 2: 798, 1: -214, 3: -214},
}


def clip(number, lowest=-32768, highest=32767):
    return sorted((lowest, number, highest))[1]


def sign(number):
    return -1 if number < 0 else 1


class ModelBand:
    """The lists have their newest number at place 0, or begin at place 1 as the document counts."""

    def __init__(self, name):
        self.name = name
        self.s, self.sz, self.n = 0, 0, 0
        self.t = {"low": 32, "high": 8}[name]
        self.r, self.p, self.a = [0] * 3, [0] * 3, [0] * 3
        self.d, self.b = [0] * 7, [0] * 7
        self.all_n, self.all_t = [self.n], [self.t]

    def moved(self, code):
        multiplier = {"low": FOUR, "high": TWO}[self.name][code]
        d = (self.t * multiplier) // 32768
        most, k = {"low": (18432, 8), "high": (22528, 10)}[self.name]
        self.n = clip(self.n * 127 // 128 + GAINS[self.name][code], 0, most)
        power = k - self.n // 2048
        level = LEVELS[self.n // 64 % 32]
        self.t = 4 * (level // 2 ** power if power >= 0 else level * 2 ** -power)
        self.all_n.append(self.n)
        self.all_t.append(self.t)
        self.goes_on(d)

    def goes_on(self, d):
        self.r[0], self.p[0], self.d[0] = clip(self.s + d), clip(self.sz + d), d
        signs = [sign(p) for p in self.p]
        v = clip(4 * self.a[1]) * (-1 if signs[0] == signs[1] else 1)
        a2 = clip(clip(v, -32768, 32767) // 128 + 128 * signs[0] * signs[2]
                  + self.a[2] * 32512 // 32768, -12288, 12288)
        most = clip(15360 - a2)
        a1 = clip(clip(192 * signs[0] * signs[1] + self.a[1] * 32640 // 32768), -most, most)
        self.a = [0, a1, a2]
        for i in range(1, 7):
            step = 0 if d == 0 else 128 * sign(d) * sign(self.d[i])
            self.b[i] = clip(step + self.b[i] * 32640 // 32768)
        self.d = [0] + self.d[:6]
        self.r = [0] + self.r[:2]
        self.p = [0] + self.p[:2]
        self.sz = clip(sum(self.b[i] * clip(2 * self.d[i]) // 32768 for i in range(1, 7)))
        poles = clip(sum(self.a[i] * clip(2 * self.r[i]) // 32768 for i in (1, 2)))
        self.s = clip(poles + self.sz)


class ModelEnd:
    def __init__(self):
        self.low, self.high = ModelBand("low"), ModelBand("high")
        self.x = [0] * 24

    def sums(self, first, second):
        self.x = self.x[2:] + [first, second]
        o = sum(self.x[2 * i] * FILTER[i] for i in range(12))
        e = sum(self.x[2 * i + 1] * FILTER[11 - i] for i in range(12))
        return e, o

    def byte(self, first, second):
        e, o = self.sums(first, second)
        u = clip((e + o) // 16384 - self.low.s)
        z = u if u >= 0 else -u - 1
        i = 1 + sum(z >= h * self.low.t // 4096 for h in THRESHOLDS)
        if u >= 0:
            low = list(range(61, 31, -1))[i - 1]
        else:
            low = ([63, 62] + list(range(31, 3, -1)))[i - 1]
        u = clip((e - o) // 16384 - self.high.s)
        z = u if u >= 0 else -u - 1
        wide = z >= 564 * self.high.t // 4096
        high = {(True, True): 2, (True, False): 3, (False, True): 0, (False, False): 1}[u >= 0, wide]
        self.low.moved(low // 4)
        self.high.moved(high)
        return high * 64 + low

    def pair(self, bits, byte):
        digits = format(byte, "08b")[8 - bits:]
        high, low, four = int(digits[:2], 2), int(digits[2:], 2), int(digits[2:6], 2)
        multiplier = {8: SIX, 7: FIVE, 6: FOUR}[bits][low]
        low_value = clip(self.low.s + self.low.t * multiplier // 32768, -16384, 16383)
        high_value = clip(self.high.s + self.high.t * TWO[high] // 32768, -16384, 16383)
        self.low.moved(four)
        self.high.moved(high)
        e, o = self.sums(low_value + high_value, low_value - high_value)
        return [clip(e // 2048), clip(o // 2048)]


class Model:
    def __init__(self):
        self.encoder, self.decoder = ModelEnd(), ModelEnd()

    def answer(self, call):
        if call == BEGIN:
            self.encoder, self.decoder = ModelEnd(), ModelEnd()
            return [0]
        name, number, row = call
        if name == "encode":
            if number not in range(65537):
                return [-2]
            pairs = zip(row[0::2], row[1::2])
            return [number] + [self.encoder.byte(first, second) for first, second in pairs]
        if number not in (6, 7, 8):
            return [-2]
        return [len(row)] + [sample for byte in row for sample in self.decoder.pair(number, byte)]
