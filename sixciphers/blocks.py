"""Blocks sealed and unsealed by six ciphers: one by one, in chains and by counters."""

CK_KEY = 1
CK_START = 2
CK_RUN = 3
CK_BLOCK = 4
# By a call's number: how far behind it stands the count of its row's numbers.
COUNT_PLACES = (0, 2, 1, 3)
LARGEST_RUN = 16777216

TWO_16 = 0x10000
TWO_32 = 0x100000000
TWO_64 = 0x10000000000000000
GOLDEN = 0x9E3779B9
THREEFISH_TURNS = ((14, 16), (52, 57), (23, 40), (5, 37), (25, 33), (46, 12), (58, 22), (32, 32))


def number_from(row, bits):
    number = 0
    for part in row:
        number = (number << bits) | part
    return number


# What is above the row's bits falls away: the counter's step from its highest number to 0 rests on that.
def row_from(number, count, bits):
    return [(number >> (bits * place)) % (1 << bits) for place in range(count - 1, -1, -1)]


def highest_first(row, bits, new_bits):
    return row_from(number_from(row, bits), len(row) * bits // new_bits, new_bits)


# Words with their lowest byte first, read backwards, are the words from the last on with the highest first.
def lowest_first(row, bits, new_bits):
    return list(reversed(highest_first(list(reversed(row)), bits, new_bits)))


def exclusive_or(row, other):
    return [x ^ y for x, y in zip(row, other)]


def turned_left(x, k, bits):
    k = k % bits
    return ((x << k) | (x >> (bits - k))) % (1 << bits)


def turned_right(x, k, bits):
    return turned_left(x, bits - k % bits, bits)


def idea_product(x, y):
    x = TWO_16 if x == 0 else x
    y = TWO_16 if y == 0 else y
    return x * y % (TWO_16 + 1) % TWO_16


# 65537 is a prime, so x to the 65535th undoes x; 65535 is sixteen bits 1, so each step squares and takes x once more.
def idea_inverse(x):
    inverse = 1
    for step in range(16):
        inverse = idea_product(idea_product(inverse, inverse), x)
    return inverse


def idea_undoing(keys):
    undoing = list(keys)
    for i, k in enumerate(keys):
        if i % 6 in (0, 3):
            undoing[i] = idea_inverse(k)
        elif i % 6 in (1, 2):
            undoing[i] = (TWO_16 - k) % TWO_16
    return undoing


# The undoing keys are made once a key, for an inverse costs more than all else in a round.
def idea_spread(key):
    number = number_from(key, 8)
    keys = []
    while len(keys) < 52:
        keys.extend(row_from(number, 8, 16))
        number = turned_left(number, 25, 128)
    keys = keys[:52]
    return (keys, idea_undoing(keys))


def idea_keyed(words, k):
    b = (words[1] + k[1]) % TWO_16
    c = (words[2] + k[2]) % TWO_16
    return [idea_product(words[0], k[0]), b, c, idea_product(words[3], k[3])]


# a^c and b^d come out as they went in, so the same keys undo it.
def idea_mixed(words, k):
    e = idea_product(words[0] ^ words[2], k[4])
    f = idea_product(((words[1] ^ words[3]) + e) % TWO_16, k[5])
    g = (e + f) % TWO_16
    return [words[0] ^ f, words[1] ^ g, words[2] ^ f, words[3] ^ g]


def idea_swapped(words):
    return [words[0], words[2], words[1], words[3]]


def idea_seal(words, schedule):
    keys = schedule[0]
    for at in range(0, 48, 6):
        k = keys[at:at + 6]
        words = idea_swapped(idea_mixed(idea_keyed(words, k), k))
    return idea_keyed(idea_swapped(words), keys[48:])


def idea_unseal(words, schedule):
    keys = schedule[1]
    words = idea_swapped(idea_keyed(words, keys[48:]))
    for at in range(42, -1, -6):
        k = keys[at:at + 6]
        words = idea_keyed(idea_mixed(idea_swapped(words), k), k)
    return words


# The sums s + k don't hang on the block, so they are reckoned once a key.
def xtea_spread(key):
    k = highest_first(key, 8, 32)
    sums = []
    for i in range(32):
        s = i * GOLDEN % TWO_32
        sums.append((s + k[s % 4]) % TWO_32)
        s = (i + 1) * GOLDEN % TWO_32
        sums.append((s + k[s // 2048 % 4]) % TWO_32)
    return sums


def xtea_mixed(v, keyed_sum):
    return (((16 * v % TWO_32) ^ (v // 32)) + v) % TWO_32 ^ keyed_sum


# a and b are treated alike, so they change places at each sum; as the sums are even in number, they end in place.
def xtea_seal(words, sums):
    for keyed_sum in sums:
        words = [words[1], (words[0] + xtea_mixed(words[1], keyed_sum)) % TWO_32]
    return words


def xtea_unseal(words, sums):
    for keyed_sum in reversed(sums):
        words = [(words[1] - xtea_mixed(words[0], keyed_sum)) % TWO_32, words[0]]
    return words


def rc_spread(key, t):
    s = [(0xB7E15163 + i * GOLDEN) % TWO_32 for i in range(t)]
    key_words = lowest_first(key, 8, 32)
    a = 0
    b = 0
    for n in range(3 * t):
        a = turned_left((s[n % t] + a + b) % TWO_32, 3, 32)
        s[n % t] = a
        b = turned_left((key_words[n % 4] + a + b) % TWO_32, a + b, 32)
        key_words[n % 4] = b
    return s


def rc5_spread(key):
    return rc_spread(key, 26)


# Here too a and b change places at each of an even number of keys.
def rc5_seal(words, s):
    words = [(words[0] + s[0]) % TWO_32, (words[1] + s[1]) % TWO_32]
    for k in s[2:]:
        words = [words[1], (turned_left(words[0] ^ words[1], words[1], 32) + k) % TWO_32]
    return words


def rc5_unseal(words, s):
    for k in reversed(s[2:]):
        words = [turned_right((words[1] - k) % TWO_32, words[0], 32) ^ words[0], words[0]]
    return [(words[0] - s[0]) % TWO_32, (words[1] - s[1]) % TWO_32]


def rc6_spread(key):
    return rc_spread(key, 44)


def rc6_turned(x):
    return turned_left(x * (2 * x + 1) % TWO_32, 5, 32)


def rc6_round(words, k0, k1):
    t = rc6_turned(words[1])
    u = rc6_turned(words[3])
    a = (turned_left(words[0] ^ t, u, 32) + k0) % TWO_32
    c = (turned_left(words[2] ^ u, t, 32) + k1) % TWO_32
    return [words[1], c, words[3], a]


def rc6_unround(words, k0, k1):
    t = rc6_turned(words[0])
    u = rc6_turned(words[2])
    a = turned_right((words[3] - k0) % TWO_32, u, 32) ^ t
    c = turned_right((words[1] - k1) % TWO_32, t, 32) ^ u
    return [a, words[0], c, words[2]]


def rc6_seal(words, s):
    words = [words[0], (words[1] + s[0]) % TWO_32, words[2], (words[3] + s[1]) % TWO_32]
    for i in range(1, 21):
        words = rc6_round(words, s[2 * i], s[2 * i + 1])
    return [(words[0] + s[42]) % TWO_32, words[1], (words[2] + s[43]) % TWO_32, words[3]]


def rc6_unseal(words, s):
    words = [(words[0] - s[42]) % TWO_32, words[1], (words[2] - s[43]) % TWO_32, words[3]]
    for i in range(20, 0, -1):
        words = rc6_unround(words, s[2 * i], s[2 * i + 1])
    return [words[0], (words[1] - s[0]) % TWO_32, words[2], (words[3] - s[1]) % TWO_32]


def speck_round(words, k):
    x = (turned_right(words[1], 8, 64) + words[0]) % TWO_64 ^ k
    return [turned_left(words[0], 3, 64) ^ x, x]


# The next key comes of k_i and l by the very round that seals, with i in the place of its key.
def speck_spread(key):
    words = lowest_first(key, 8, 64)
    keys = [words[0]]
    for i in range(31):
        words = speck_round(words, i)
        keys.append(words[0])
    return keys


def speck_seal(words, keys):
    for k in keys:
        words = speck_round(words, k)
    return words


def speck_unseal(words, keys):
    for k in reversed(keys):
        y = turned_right(words[0] ^ words[1], 3, 64)
        words = [y, turned_left(((words[1] ^ k) - y) % TWO_64, 8, 64)]
    return words


def threefish_sum(words, keys):
    return [(word + k) % TWO_64 for word, k in zip(words, keys)]


def threefish_difference(words, keys):
    return [(word - k) % TWO_64 for word, k in zip(words, keys)]


def threefish_spread(key):
    k = lowest_first(key[:32], 8, 64)
    k.append(k[0] ^ k[1] ^ k[2] ^ k[3] ^ 0x1BD11BDAA9FC1A22)
    t = lowest_first(key[32:], 8, 64)
    t.append(t[0] ^ t[1])
    schedule = []
    for s in range(19):
        untweaked = [k[s % 5], k[(s + 1) % 5], k[(s + 2) % 5], k[(s + 3) % 5]]
        schedule.append(threefish_sum(untweaked, [0, t[s % 3], t[(s + 1) % 3], s]))
    return schedule


def threefish_round(words, turns):
    a = (words[0] + words[1]) % TWO_64
    b = turned_left(words[1], turns[0], 64) ^ a
    c = (words[2] + words[3]) % TWO_64
    d = turned_left(words[3], turns[1], 64) ^ c
    return [a, d, c, b]


def threefish_unround(words, turns):
    b = turned_right(words[3] ^ words[0], turns[0], 64)
    d = turned_right(words[1] ^ words[2], turns[1], 64)
    return [(words[0] - b) % TWO_64, b, (words[2] - d) % TWO_64, d]


def threefish_seal(words, schedule):
    for i in range(72):
        if i % 4 == 0:
            words = threefish_sum(words, schedule[i // 4])
        words = threefish_round(words, THREEFISH_TURNS[i % 8])
    return threefish_sum(words, schedule[18])


def threefish_unseal(words, schedule):
    words = threefish_difference(words, schedule[18])
    for i in range(71, -1, -1):
        words = threefish_unround(words, THREEFISH_TURNS[i % 8])
        if i % 4 == 0:
            words = threefish_difference(words, schedule[i // 4])
    return words


BLOCK_SIZES = (8, 8, 8, 16, 16, 32)
WORD_BITS = (16, 32, 32, 32, 64, 64)
REGROUPS = (highest_first, highest_first, lowest_first, lowest_first, lowest_first, lowest_first)
SPREADS = (idea_spread, xtea_spread, rc5_spread, rc6_spread, speck_spread, threefish_spread)
SEALS = (idea_seal, xtea_seal, rc5_seal, rc6_seal, speck_seal, threefish_seal)
UNSEALS = (idea_unseal, xtea_unseal, rc5_unseal, rc6_unseal, speck_unseal, threefish_unseal)


class Sealer:
    def __init__(self):
        self.cipher = None
        self.schedule = None
        self.standing = []

    def block_size(self):
        return BLOCK_SIZES[self.cipher]

    def take_key(self, cipher, key):
        if cipher < 0 or cipher > 5:
            return -1
        self.cipher = cipher
        self.schedule = SPREADS[cipher](key)
        self.standing = [0] * self.block_size()
        return 0

    def take_start(self, iv):
        self.standing = iv[:self.block_size()]
        return 0

    def run_blocks(self, way, n, data):
        size = self.block_size()
        if way < 0 or way > 4 or n < 0 or n > LARGEST_RUN or (way != 4 and n % size != 0):
            return [-1]
        answer = [0]
        for at in range(0, n, size):
            answer.extend(self.run_block(way, data[at:at + size]))
        return answer

    def run_block(self, way, block):
        before = self.standing
        if way == 0:
            return self.sealed(block)
        if way == 1:
            return self.unsealed(block)
        if way == 2:
            self.standing = self.sealed(exclusive_or(block, before))
            return self.standing
        if way == 3:
            self.standing = block
            return exclusive_or(self.unsealed(block), before)
        # A shorter last block takes a count of its own too.
        self.standing = row_from(number_from(before, 8) + 1, len(before), 8)
        return exclusive_or(block, self.sealed(before))

    def sealed(self, block):
        return self.worked(SEALS[self.cipher], block)

    def unsealed(self, block):
        return self.worked(UNSEALS[self.cipher], block)

    def worked(self, work, block):
        regroup = REGROUPS[self.cipher]
        bits = WORD_BITS[self.cipher]
        return regroup(work(regroup(block, 8, bits), self.schedule), bits, 8)


def call_end(calls, at):
    if calls[at] == CK_BLOCK:
        return at + 1
    count_at = at + COUNT_PLACES[calls[at]]
    return count_at + 1 + calls[count_at]


def call_answer(sealer, call):
    if call[0] == CK_KEY:
        return [sealer.take_key(call[1], call[3:])]
    if call[0] == CK_START:
        return [sealer.take_start(call[2:])]
    if call[0] == CK_RUN:
        return sealer.run_blocks(call[1], call[2], call[4:])
    return [sealer.block_size()]


def answers(calls):
    sealer = Sealer()
    found = []
    at = 0
    while at < len(calls):
        end = call_end(calls, at)
        answer = call_answer(sealer, calls[at:end])
        found.append(len(answer))
        found.extend(answer)
        at = end
    return found
