"""Point 3: ck_run, its five ways."""

import hashlib
import unittest

from tests.calls import (
    BLOCK_SIZES, CIPHERS, KEY_SIZES, WAYS, after, answered, ck_key, ck_run, ck_start, exclusive_or, row, some_bytes,
    some_key,
)
from tests.known_answers import KNOWN, LONG, PUBLISHED


def ran_in_pieces(before, way, data, sizes):
    calls = []
    at = 0
    for size in sizes:
        calls.append(ck_run(way, data[at:at + size]))
        at = at + size
    found = []
    for answer in after(before, *calls):
        found.extend(answer[1:])
    return found


class TestKnownAnswers(unittest.TestCase):
    def test_published(self):
        for cipher, key, block, sealed in PUBLISHED:
            with self.subTest(cipher=cipher, key=key, block=block):
                before = [ck_key(cipher, row(key))]
                self.assertEqual(after(before, ck_run(0, row(block))), [[0] + row(sealed)])
                self.assertEqual(after(before, ck_run(1, row(sealed))), [[0] + row(block)])

    def test_known(self):
        for cipher, way, key, iv, data, expected in KNOWN:
            with self.subTest(cipher=cipher, way=way, key=key, data=data):
                before = [ck_key(cipher, row(key)), ck_start(row(iv))]
                self.assertEqual(after(before, ck_run(way, row(data))), [[0] + row(expected)])

    def test_known_names_each_cipher_in_each_way(self):
        named = {(cipher, way) for cipher, way, *rest in KNOWN}
        self.assertEqual(named, {(cipher, way) for cipher in CIPHERS for way in WAYS})

    def test_known_block_by_block(self):
        for cipher, way, key, iv, data, expected in KNOWN:
            size = BLOCK_SIZES[cipher]
            before = [ck_key(cipher, row(key)), ck_start(row(iv))]
            blocks = -(-len(row(data)) // size)
            with self.subTest(cipher=cipher, way=way, key=key, data=data):
                self.assertEqual(ran_in_pieces(before, way, row(data), [size] * blocks), row(expected))

    def test_2000_bytes(self):
        for cipher, way, n, digest in LONG:
            before = [ck_key(cipher, some_bytes(KEY_SIZES[cipher], 11)), ck_start(some_bytes(32, 12))]
            with self.subTest(cipher=cipher, way=way, n=n):
                answer = after(before, ck_run(way, some_bytes(n, 13)))[0]
                self.assertEqual(answer[0], 0)
                self.assertEqual(len(answer), n + 1)
                self.assertEqual(hashlib.sha256(bytes(answer[1:])).hexdigest(), digest)


class TestUndoing(unittest.TestCase):
    def check_undone(self, before, data, way, undoing_way):
        sealed = after(before, ck_run(way, data))[0]
        self.assertEqual(sealed[0], 0)
        self.assertNotEqual(sealed[1:], data)
        self.assertEqual(after(before, ck_run(undoing_way, sealed[1:])), [[0] + data])

    def test_unsealed_undoes_sealed(self):
        for cipher in CIPHERS:
            size = BLOCK_SIZES[cipher]
            count = KEY_SIZES[cipher]
            for key in ([0] * count, [255] * count, some_bytes(count, 1), some_bytes(count, 2), [1] + [0] * (count - 1)):
                for data in ([0] * size, [255] * size, some_bytes(size, 3), some_bytes(4 * size, 4)):
                    with self.subTest(cipher=cipher, key=key, data=data):
                        before = [ck_key(cipher, key), ck_start(some_bytes(32, 5))]
                        self.check_undone(before, data, 0, 1)
                        self.check_undone(before, data, 1, 0)
                        self.check_undone(before, data, 2, 3)
                        self.check_undone(before, data, 4, 4)

    def test_many_keys(self):
        for cipher in CIPHERS:
            for seed in range(60):
                with self.subTest(cipher=cipher, seed=seed):
                    self.check_undone([some_key(cipher, seed)], some_bytes(BLOCK_SIZES[cipher], seed + 100), 0, 1)


class TestWhatStands(unittest.TestCase):
    def test_goes_on_from_call_to_call(self):
        for cipher in CIPHERS:
            size = BLOCK_SIZES[cipher]
            before = [some_key(cipher), ck_start(some_bytes(32, 1))]
            data = some_bytes(6 * size, 2)
            for way in WAYS:
                whole = after(before, ck_run(way, data))[0][1:]
                for blocks in ((1, 1, 1, 1, 1, 1), (1, 0, 2, 0, 3), (5, 1), (2, 4)):
                    with self.subTest(cipher=cipher, way=way, blocks=blocks):
                        sizes = [count * size for count in blocks]
                        self.assertEqual(ran_in_pieces(before, way, data, sizes), whole)

    def test_ways_0_and_1_leave_it(self):
        for cipher in CIPHERS:
            data = some_bytes(2 * BLOCK_SIZES[cipher], 3)
            before = [some_key(cipher), ck_start(some_bytes(32, 4))]
            for way in (2, 3, 4):
                expected = after(before, ck_run(way, data))
                for between in (0, 1):
                    with self.subTest(cipher=cipher, way=way, between=between):
                        self.assertEqual(after(before + [ck_run(between, data)], ck_run(way, data)), expected)

    def test_the_last_of_way_2_and_3_stands_whatever_way_follows(self):
        for cipher in CIPHERS:
            size = BLOCK_SIZES[cipher]
            data = some_bytes(2 * size, 5)
            before = [some_key(cipher), ck_start(some_bytes(32, 6))]
            stands = {2: after(before, ck_run(2, data))[0][-size:], 3: data[-size:]}
            for first, last in stands.items():
                for way in (2, 3, 4):
                    with self.subTest(cipher=cipher, first=first, way=way):
                        expected = after([some_key(cipher), ck_start((last * 4)[:32])], ck_run(way, data))
                        self.assertEqual(after(before + [ck_run(first, data)], ck_run(way, data)), expected)

    def test_n_0(self):
        for cipher in CIPHERS:
            data = some_bytes(2 * BLOCK_SIZES[cipher], 7)
            before = [some_key(cipher), ck_start(some_bytes(32, 8))]
            for way in WAYS:
                with self.subTest(cipher=cipher, way=way):
                    self.assertEqual(after(before, ck_run(way)), [[0]])
                    for behind in (2, 3, 4):
                        found = after(before + [ck_run(way)], ck_run(behind, data))
                        self.assertEqual(found, after(before, ck_run(behind, data)))


class TestCounting(unittest.TestCase):
    def check_counted(self, cipher, first, sizes):
        """Each call's blocks take the numbers from first on, one by one, modulo 2 to the block's bits."""
        size = BLOCK_SIZES[cipher]
        iv = list(first.to_bytes(size, "big"))
        runs = [some_bytes(n, n + 1) for n in sizes]
        found = after([some_key(cipher), ck_start((iv * 4)[:32])], *[ck_run(4, data) for data in runs])
        number = first
        for data, answer in zip(runs, found):
            expected = [0]
            for at in range(0, len(data), size):
                counted = answered(some_key(cipher), ck_run(0, list(number.to_bytes(size, "big"))))[1][1:]
                expected.extend(exclusive_or(data[at:at + size], counted))
                number = (number + 1) % 256 ** size
            self.assertEqual(answer, expected)

    def test_a_shorter_last_block(self):
        for cipher in CIPHERS:
            size = BLOCK_SIZES[cipher]
            for last in range(1, size):
                with self.subTest(cipher=cipher, last=last):
                    self.check_counted(cipher, 5, [last])
                    self.check_counted(cipher, 5, [2 * size + last])

    def test_a_shorter_block_takes_a_count_of_its_own(self):
        for cipher in CIPHERS:
            size = BLOCK_SIZES[cipher]
            with self.subTest(cipher=cipher):
                self.check_counted(cipher, 5, [size + 1, size, 1, 0, 2, size - 1, 3 * size])

    def test_all_bytes_255(self):
        for cipher in CIPHERS:
            size = BLOCK_SIZES[cipher]
            with self.subTest(cipher=cipher):
                self.check_counted(cipher, 256 ** size - 1, [3 * size])
                self.check_counted(cipher, 256 ** size - 1, [1, size, size])
                self.check_counted(cipher, 256 ** size - 2, [3 * size + 1])

    def test_a_byte_is_carried(self):
        for cipher in CIPHERS:
            size = BLOCK_SIZES[cipher]
            for place in range(1, size):
                with self.subTest(cipher=cipher, place=place):
                    self.check_counted(cipher, 256 ** place - 1, [2 * size])


if __name__ == "__main__":
    unittest.main()
