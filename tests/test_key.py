"""Point 1: ck_key."""

import unittest

from tests.calls import (
    BLOCK_SIZES, CIPHERS, CK_BLOCK, INT_HIGHEST, INT_LOWEST, after, answered, ck_key, ck_run, ck_start, some_bytes,
    some_key,
)

NO_CIPHERS = (-1, 6, 7, -6, 255, 256, INT_LOWEST, INT_HIGHEST)


class TestKey(unittest.TestCase):
    def test_each_cipher_is_taken(self):
        for cipher in CIPHERS:
            with self.subTest(cipher=cipher):
                self.assertEqual(answered(some_key(cipher)), [[0]])

    def test_no_such_cipher(self):
        for cipher in NO_CIPHERS:
            with self.subTest(cipher=cipher):
                self.assertEqual(answered(some_key(0), ck_key(cipher)), [[0], [-1]])

    def test_a_refused_key_leaves_all_as_it_was(self):
        for cipher in CIPHERS:
            data = some_bytes(2 * BLOCK_SIZES[cipher], 3)
            for way in (0, 2, 3, 4):
                before = [some_key(cipher), ck_start(some_bytes(32, 2)), ck_run(way, data)]
                expected = after(before, CK_BLOCK, ck_run(way, data))
                for refused in NO_CIPHERS:
                    with self.subTest(cipher=cipher, way=way, refused=refused):
                        found = after(before + [ck_key(refused)], CK_BLOCK, ck_run(way, data))
                        self.assertEqual(found, expected)

    def test_a_later_key_takes_the_place_of_the_earlier(self):
        for earlier in CIPHERS:
            for later in CIPHERS:
                data = some_bytes(2 * BLOCK_SIZES[later], 4)
                expected = answered(some_key(later, 6), CK_BLOCK, ck_run(2, data))
                before = [some_key(earlier, 5), ck_start(some_bytes(32, 2)), ck_run(4, some_bytes(33, 7))]
                with self.subTest(earlier=earlier, later=later):
                    self.assertEqual(after(before, some_key(later, 6), CK_BLOCK, ck_run(2, data)), expected)

    def test_bytes_0_stand_for_the_next_block(self):
        for cipher in CIPHERS:
            data = some_bytes(2 * BLOCK_SIZES[cipher], 8)
            for way in (2, 3, 4):
                with self.subTest(cipher=cipher, way=way):
                    expected = after([some_key(cipher), ck_start([0] * 32)], ck_run(way, data))
                    self.assertEqual(after([some_key(cipher)], ck_run(way, data)), expected)
                    again = [some_key(cipher), ck_start([255] * 32), ck_run(way, data), some_key(cipher)]
                    self.assertEqual(after(again, ck_run(way, data)), expected)

    def test_every_byte_of_a_key_counts(self):
        for cipher in CIPHERS:
            data = some_bytes(BLOCK_SIZES[cipher], 9)
            key = some_key(cipher)
            expected = answered(key, ck_run(0, data))
            for place in range(3, len(key)):
                other = list(key)
                other[place] = other[place] ^ 1
                with self.subTest(cipher=cipher, place=place):
                    self.assertNotEqual(answered(other, ck_run(0, data)), expected)


if __name__ == "__main__":
    unittest.main()
