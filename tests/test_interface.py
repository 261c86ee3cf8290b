"""The interface, and what holds over the whole program."""

import contextlib
import io
import unittest

from sixciphers.blocks import answers
from tests.calls import (
    BLOCK_SIZES, CIPHERS, CK_BLOCK, WAYS, answered, ck_key, ck_run, ck_start, joined, some_bytes, some_key,
    taken_apart,
)


def refuse_change(self, *args, **kwargs):
    raise AssertionError("what is handed in was changed")


class Unchanging(list):
    append = extend = insert = pop = remove = clear = sort = reverse = refuse_change
    __setitem__ = __delitem__ = __iadd__ = __imul__ = refuse_change


def mixed_calls():
    calls = []
    for cipher in CIPHERS:
        calls.append(some_key(cipher, cipher))
        calls.append(CK_BLOCK)
        calls.append(ck_start(some_bytes(32, cipher)))
        for way in WAYS:
            calls.append(ck_run(way, some_bytes(64, way)))
        calls.append(ck_run(5))
        calls.append(ck_run(0, n=-1))
        calls.append(ck_key(-1))
    return calls


class TestInterface(unittest.TestCase):
    def test_written_out(self):
        key = [0, 1, 0, 2, 0, 3, 0, 4, 0, 5, 0, 6, 0, 7, 0, 8]
        calls = [4, 1, 0, 16] + key + [3, 0, 8, 8, 0, 0, 0, 1, 0, 2, 0, 3, 4, 3, 7, 0, 0, 1, 9, 0, 2, 32] + [0] * 32
        calls = [1, 5, 48] + [0] * 48 + calls
        expected = [1, 0, 1, 32, 1, 0, 9, 0, 17, 251, 237, 43, 1, 152, 109, 229, 1, 8, 1, -1, 1, -1, 1, 0]
        self.assertEqual(answers(calls), expected)

    def test_one_call(self):
        for cipher in CIPHERS:
            with self.subTest(cipher=cipher):
                self.assertEqual(answers(some_key(cipher)), [1, 0])

    def test_several_calls(self):
        found = answered(*mixed_calls())
        for cipher in CIPHERS:
            of_cipher = found[11 * cipher:11 * cipher + 11]
            with self.subTest(cipher=cipher):
                self.assertEqual(of_cipher[:3], [[0], [BLOCK_SIZES[cipher]], [0]])
                self.assertEqual([(answer[0], len(answer)) for answer in of_cipher[3:8]], [(0, 65)] * 5)
                self.assertEqual(of_cipher[8:], [[-1], [-1], [-1]])

    def test_data_that_looks_like_calls(self):
        look_alike = [1, 2, 3, 4, 3, 0, 8, 8, 4, 4, 4, 4, 1, 0, 16, 2]
        found = answered(ck_key(4, look_alike), ck_start(look_alike * 2), ck_run(4, look_alike[:5]), CK_BLOCK)
        self.assertEqual([len(answer) for answer in found], [1, 1, 6, 1])
        self.assertEqual(found[3], [16])

    def test_400_calls(self):
        calls = [some_key(1)] + [CK_BLOCK] * 399
        self.assertEqual(answers(joined(calls)), [1, 0] + [1, 8] * 399)
        for cipher in CIPHERS:
            block = some_bytes(BLOCK_SIZES[cipher], 1)
            calls = [some_key(cipher)] + [ck_run(2, block)] * 399
            whole = answered(some_key(cipher), ck_run(2, block * (2000 // len(block) // 2)))[1][1:]
            with self.subTest(cipher=cipher):
                found = joined(answer[1:] for answer in answered(*calls)[1:])
                self.assertEqual(len(found), 399 * len(block))
                self.assertEqual(found[:len(whole)], whole[:len(found)])

    def test_30000_numbers(self):
        for cipher in CIPHERS:
            calls = [some_key(cipher)] + [ck_run(4, some_bytes(2000, 2))] * 14
            calls.append(ck_run(4, some_bytes(30000 - len(joined(calls)) - 4, 3)))
            with self.subTest(cipher=cipher):
                self.assertEqual(len(joined(calls)), 30000)
                found = answered(*calls)
                self.assertEqual([len(answer) for answer in found[:15]], [1] + [2001] * 14)
                self.assertEqual(len(found[15]), len(calls[15]) - 3)

    def test_answers_are_whole_numbers(self):
        found = answers(joined(mixed_calls()))
        self.assertIs(type(found), list)
        self.assertEqual({type(number) for number in found}, {int})
        for answer in taken_apart(found):
            self.assertTrue(all(0 <= number <= 255 for number in answer[1:]))


class TestWholeProgram(unittest.TestCase):
    def test_what_is_handed_in_is_not_changed(self):
        calls = joined(mixed_calls())
        handed_in = Unchanging(calls)
        found = answers(handed_in)
        self.assertEqual(list(handed_in), calls)
        self.assertEqual(found, answers(calls))

    def test_nothing_is_kept(self):
        calls = joined(mixed_calls())
        first = answers(calls)
        expected = list(first)
        answers(joined([some_key(3), ck_start([7] * 32), ck_run(4, [1] * 50)]))
        first.clear()
        self.assertEqual(answers(calls), expected)

    def test_prints_nothing(self):
        printed = io.StringIO()
        with contextlib.redirect_stdout(printed), contextlib.redirect_stderr(printed):
            answers(joined(mixed_calls()))
        self.assertEqual(printed.getvalue(), "")


if __name__ == "__main__":
    unittest.main()
