"""Speech in two bands: an end that encodes, an end that decodes, and the calls on both.

Short names (s, sz, n, t, r1, p1, a1, d, b, x, Q, H, L, M6 ..) are those of the document,
so that the two can be read side by side.
"""

BEGIN = 1
ENCODE = 2

REFUSED = -2
MOST_PAIRS = 65536

Q = (3, -11, 12, 32, -210, 951, 3876, -805, 362, -156, 53, -11)

L = (
    2048, 2093, 2139, 2186, 2233, 2282, 2332, 2383,
    2435, 2489, 2543, 2599, 2656, 2714, 2774, 2834,
    2896, 2960, 3025, 3091, 3158, 3228, 3298, 3371,
    3444, 3520, 3597, 3676, 3756, 3838, 3922, 4008,
)

H = (
    35, 72, 110, 150, 190, 233, 276, 323, 370, 422,
    473, 530, 587, 650, 714, 786, 858, 940, 1023, 1121,
    1219, 1339, 1458, 1612, 1765, 1980, 2195, 2557, 2919,
)
HIGH_H = 564

M6 = (
    -136, -136, -136, -136, -24808, -21904, -19008, -16704,
    -14984, -13512, -12280, -11192, -10232, -9360, -8576, -7856,
    -7192, -6576, -6000, -5456, -4944, -4464, -4008, -3576,
    -3168, -2776, -2400, -2032, -1688, -1360, -1040, -728,
    24808, 21904, 19008, 16704, 14984, 13512, 12280, 11192,
    10232, 9360, 8576, 7856, 7192, 6576, 6000, 5456,
    4944, 4464, 4008, 3576, 3168, 2776, 2400, 2032,
    1688, 1360, 1040, 728, 432, 136, -432, -136,
)
M5 = (
    -280, -280, -23352, -17560, -14120, -11664, -9752, -8184,
    -6864, -5712, -4696, -3784, -2960, -2208, -1520, -880,
    23352, 17560, 14120, 11664, 9752, 8184, 6864, 5712,
    4696, 3784, 2960, 2208, 1520, 880, 280, -280,
)
M4 = (
    0, -20456, -12896, -8968, -6288, -4240, -2584, -1200,
    20456, 12896, 8968, 6288, 4240, 2584, 1200, 0,
)
M2 = (-7408, -1616, 7408, 1616)

LOW_G = (-60, 3042, 1198, 538, 334, 172, 58, -30, 3042, 1198, 538, 334, 172, 58, -30, -60)
HIGH_G = (798, -214, 798, -214)


def between(least, number, most):
    if number < least:
        return least
    if number > most:
        return most
    return number


def held(number):
    return between(-32768, number, 32767)


def one_sign(first, second):
    return (first < 0) == (second < 0)


def plus_if(chosen, amount):
    return amount if chosen else -amount


def width(n, shift):
    level = L[n // 64 % 32]
    k = shift - n // 2048
    if k < 0:
        return 4 * (level << -k)
    return 4 * (level >> k)


class Band:
    # table and gains are M and g by the band's bits, most is m, shift is K.
    def __init__(self, table, gains, most, shift):
        self.table = table
        self.gains = gains
        self.most = most
        self.shift = shift
        self.s = 0
        self.sz = 0
        self.n = 0
        self.t = width(0, shift)
        self.r1 = 0
        self.r2 = 0
        self.p1 = 0
        self.p2 = 0
        self.a1 = 0
        self.a2 = 0
        self.d = [0, 0, 0, 0, 0, 0]
        self.b = [0, 0, 0, 0, 0, 0]

    def move(self, code):
        # d is told by the t that was there before the code changes it.
        d = self.t * self.table[code] >> 15
        self.n = between(0, (self.n * 127 >> 7) + self.gains[code], self.most)
        self.t = width(self.n, self.shift)
        self.go_on(d)

    def go_on(self, d):
        r0 = held(self.s + d)
        p0 = held(self.sz + d)
        new_a2 = self.following_a2(p0)
        new_a1 = self.following_a1(p0, new_a2)
        self.b = self.following_b(d)
        self.d = [d] + self.d[:5]
        self.a1 = new_a1
        self.a2 = new_a2
        self.r2 = self.r1
        self.r1 = r0
        self.p2 = self.p1
        self.p1 = p0
        self.foretell()

    def following_a2(self, p0):
        v = held(4 * self.a1)
        if one_sign(p0, self.p1):
            v = min(-v, 32767)
        w = (v >> 7) + plus_if(one_sign(p0, self.p2), 128) + (self.a2 * 32512 >> 15)
        return between(-12288, w, 12288)

    def following_a1(self, p0, new_a2):
        w = held(plus_if(one_sign(p0, self.p1), 192) + (self.a1 * 32640 >> 15))
        limit = held(15360 - new_a2)
        return between(-limit, w, limit)

    def following_b(self, d):
        amount = 0 if d == 0 else 128
        return [
            held(plus_if(one_sign(di, d), amount) + (bi * 32640 >> 15))
            for di, bi in zip(self.d, self.b)
        ]

    def foretell(self):
        zeros = sum([bi * held(2 * di) >> 15 for di, bi in zip(self.d, self.b)])
        poles = (self.a1 * held(2 * self.r1) >> 15) + (self.a2 * held(2 * self.r2) >> 15)
        self.sz = held(zeros)
        self.s = held(held(poles) + self.sz)


class End:
    def __init__(self):
        self.low = Band(M4, LOW_G, 18432, 8)
        self.high = Band(M2, HIGH_G, 22528, 10)
        self.x = [0] * 24

    def take(self, first, second):
        self.x = self.x[2:] + [first, second]

    def sum_o(self):
        return sum([xi * qi for xi, qi in zip(self.x[0::2], Q)])

    def sum_e(self):
        return sum([xi * qi for xi, qi in zip(self.x[1::2], Q[::-1])])


def size_of(u):
    return u if u >= 0 else -u - 1


def rung(z, t):
    for i, h in enumerate(H, start=1):
        if z < h * t >> 12:
            return i
    return len(H) + 1


def low_bits(band, value):
    u = held(value - band.s)
    i = rung(size_of(u), band.t)
    if u >= 0:
        return 62 - i
    if i <= 2:
        return 64 - i
    return 34 - i


def high_bits(band, value):
    u = held(value - band.s)
    wide = size_of(u) >= HIGH_H * band.t >> 12
    if u >= 0:
        return 2 if wide else 3
    return 0 if wide else 1


def byte_of_pair(end, first, second):
    end.take(first, second)
    e = end.sum_e()
    o = end.sum_o()
    low = low_bits(end.low, (e + o) >> 14)
    high = high_bits(end.high, (e - o) >> 14)
    end.low.move(low >> 2)
    end.high.move(high)
    return 64 * high + low


def low_table(bits):
    if bits == 8:
        return M6
    if bits == 7:
        return M5
    return M4


def band_value(band, multiplier):
    return between(-16384, band.s + (band.t * multiplier >> 15), 16383)


def pair_of_byte(end, bits, byte):
    table = low_table(bits)
    # A table has one number for each value of the low bits, so its length parts them from the high ones.
    low = byte % len(table)
    high = byte // len(table) % 4
    low_value = band_value(end.low, table[low])
    high_value = band_value(end.high, M2[high])
    end.low.move(low >> (bits - 6))
    end.high.move(high)
    end.take(low_value + high_value, low_value - high_value)
    return [held(end.sum_e() >> 11), held(end.sum_o() >> 11)]


class Line:
    def __init__(self):
        self.encoder = End()
        self.decoder = End()

    def begun(self):
        self.encoder = End()
        self.decoder = End()
        return [0]

    def encoded(self, pairs, samples):
        if pairs < 0 or pairs > MOST_PAIRS:
            return [REFUSED]
        answer = [pairs]
        for i in range(pairs):
            answer.append(byte_of_pair(self.encoder, samples[2 * i], samples[2 * i + 1]))
        return answer

    def decoded(self, bits, row):
        if bits < 6 or bits > 8:
            return [REFUSED]
        answer = [len(row)]
        for byte in row:
            answer.extend(pair_of_byte(self.decoder, bits, byte))
        return answer

    def answer_to(self, call):
        if call[0] == BEGIN:
            return self.begun()
        if call[0] == ENCODE:
            return self.encoded(call[1], call[3:])
        return self.decoded(call[1], call[3:])


def length_of_call(calls, at):
    if calls[at] == BEGIN:
        return 1
    return 3 + calls[at + 2]


def answers(calls):
    line = Line()
    given = []
    at = 0
    while at < len(calls):
        length = length_of_call(calls, at)
        answer = line.answer_to(calls[at:at + length])
        given.append(len(answer))
        given.extend(answer)
        at += length
    return given
