"""Point 2: ck_start and ck_block."""

import unittest

from tests.calls import (
    BLOCK_SIZES, CIPHERS, CK_BLOCK, after, answered, ck_key, ck_run, ck_start, exclusive_or, some_bytes, some_key,
)


class TestStart(unittest.TestCase):
    def test_is_answered_0(self):
        for cipher in CIPHERS:
            for iv in ([0] * 32, [255] * 32, some_bytes(32, 1)):
                with self.subTest(cipher=cipher, iv=iv):
                    self.assertEqual(answered(some_key(cipher), ck_start(iv)), [[0], [0]])

    def test_the_first_bytes_stand_for_the_next_block(self):
        iv = some_bytes(32, 2)
        for cipher in CIPHERS:
            size = BLOCK_SIZES[cipher]
            block = some_bytes(size, 3)
            sealed = after([some_key(cipher)], ck_run(0, exclusive_or(block, iv)))[0]
            unsealed = after([some_key(cipher)], ck_run(1, block))[0][1:]
            counted = after([some_key(cipher)], ck_run(0, iv[:size]))[0][1:]
            before = [some_key(cipher), ck_start(iv)]
            with self.subTest(cipher=cipher):
                self.assertEqual(after(before, ck_run(2, block)), [sealed])
                self.assertEqual(after(before, ck_run(3, block)), [[0] + exclusive_or(unsealed, iv)])
                self.assertEqual(after(before, ck_run(4, block)), [[0] + exclusive_or(counted, block)])

    def test_the_other_bytes_do_not_count(self):
        for cipher in CIPHERS:
            size = BLOCK_SIZES[cipher]
            data = some_bytes(3 * size, 3)
            iv = some_bytes(32, 4)
            other = iv[:size] + [byte ^ 255 for byte in iv[size:]]
            for way in (2, 3, 4):
                with self.subTest(cipher=cipher, way=way):
                    found = after([some_key(cipher), ck_start(other)], ck_run(way, data))
                    self.assertEqual(found, after([some_key(cipher), ck_start(iv)], ck_run(way, data)))

    def test_a_later_start_takes_the_place_of_what_stood(self):
        for cipher in CIPHERS:
            data = some_bytes(2 * BLOCK_SIZES[cipher], 5)
            iv = some_bytes(32, 6)
            for way in (2, 3, 4):
                with self.subTest(cipher=cipher, way=way):
                    before = [some_key(cipher), ck_start([9] * 32), ck_run(way, data), ck_start(iv)]
                    expected = after([some_key(cipher), ck_start(iv)], ck_run(way, data))
                    self.assertEqual(after(before, ck_run(way, data)), expected)


class TestBlock(unittest.TestCase):
    def test_how_many_bytes(self):
        found = [answered(some_key(cipher), CK_BLOCK)[1] for cipher in CIPHERS]
        self.assertEqual(found, [[8], [8], [8], [16], [16], [32]])

    def test_changes_with_the_cipher(self):
        found = answered(some_key(5), CK_BLOCK, some_key(0), CK_BLOCK, CK_BLOCK, ck_key(6), CK_BLOCK)
        self.assertEqual(found, [[0], [32], [0], [8], [8], [-1], [8]])

    def test_changes_nothing(self):
        for cipher in CIPHERS:
            data = some_bytes(BLOCK_SIZES[cipher], 7)
            before = [some_key(cipher), ck_start(some_bytes(32, 8)), ck_run(2, data)]
            with self.subTest(cipher=cipher):
                self.assertEqual(after(before + [CK_BLOCK], ck_run(2, data)), after(before, ck_run(2, data)))


if __name__ == "__main__":
    unittest.main()
