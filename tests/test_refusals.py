"""Point 3: what ck_run refuses."""

import unittest

from tests.calls import (
    BLOCK_SIZES, CIPHERS, INT_HIGHEST, INT_LOWEST, WAYS, after, ck_run, ck_start, some_bytes, some_key,
)

NO_WAYS = (-1, 5, 6, -4, INT_LOWEST, INT_HIGHEST)
NO_COUNTS = (-1, -8, -32, INT_LOWEST, 16777217, 16777248, INT_HIGHEST)


class TestRefusals(unittest.TestCase):
    def check_refused(self, cipher, call):
        """The call is answered -1 alone, and each way goes on as if it had not been there."""
        data = some_bytes(2 * BLOCK_SIZES[cipher], 1)
        before = [some_key(cipher), ck_start(some_bytes(32, 2)), ck_run(2, data)]
        for way in WAYS:
            behind = ck_run(way, data)
            self.assertEqual(after(before, call, behind), [[-1]] + after(before, behind))

    def test_no_such_way(self):
        for cipher in CIPHERS:
            for way in NO_WAYS:
                for n in (0, 1, BLOCK_SIZES[cipher], 64):
                    with self.subTest(cipher=cipher, way=way, n=n):
                        self.check_refused(cipher, ck_run(way, some_bytes(n, 3)))

    def test_no_such_count(self):
        for cipher in CIPHERS:
            for way in WAYS:
                for n in NO_COUNTS:
                    with self.subTest(cipher=cipher, way=way, n=n):
                        self.check_refused(cipher, ck_run(way, n=n))

    def test_neither_way_nor_count(self):
        for way in NO_WAYS:
            for n in NO_COUNTS:
                with self.subTest(way=way, n=n):
                    self.check_refused(0, ck_run(way, n=n))

    def test_no_multiple_of_a_block(self):
        for cipher in CIPHERS:
            size = BLOCK_SIZES[cipher]
            for way in (0, 1, 2, 3):
                for n in (1, size - 1, size + 1, 2 * size - 1, 3 * size + size // 2, 1999):
                    with self.subTest(cipher=cipher, way=way, n=n):
                        self.check_refused(cipher, ck_run(way, some_bytes(n, 4)))

    def test_2000_is_no_multiple_of_32(self):
        for way in (0, 1, 2, 3):
            with self.subTest(way=way):
                self.check_refused(5, ck_run(way, some_bytes(2000, 5)))

    def test_way_4_takes_every_count(self):
        for cipher in CIPHERS:
            for n in range(70):
                with self.subTest(cipher=cipher, n=n):
                    answer = after([some_key(cipher)], ck_run(4, some_bytes(n, 6)))[0]
                    self.assertEqual((answer[0], len(answer)), (0, n + 1))


if __name__ == "__main__":
    unittest.main()
