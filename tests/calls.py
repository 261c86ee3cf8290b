"""The calls as the interface writes them, and the answers taken apart again."""

from sixciphers.blocks import answers

CIPHERS = range(6)
WAYS = range(5)
BLOCK_SIZES = (8, 8, 8, 16, 16, 32)
KEY_SIZES = (16, 16, 16, 16, 16, 48)
CK_BLOCK = [4]
INT_LOWEST = -2147483648
INT_HIGHEST = 2147483647


def ck_key(cipher, key=()):
    return [1, cipher, len(key), *key]


def ck_start(iv):
    return [2, len(iv), *iv]


def ck_run(way, data=(), n=None):
    return [3, way, len(data) if n is None else n, len(data), *data]


def joined(calls):
    return [number for call in calls for number in call]


def taken_apart(row):
    found = []
    at = 0
    while at < len(row):
        end = at + 1 + row[at]
        if row[at] < 1 or end > len(row):
            raise ValueError(f"no answer begins at {at}")
        found.append(row[at + 1:end])
        at = end
    return found


def answered(*calls):
    """One answer for each call, in order."""
    found = taken_apart(answers(joined(calls)))
    if len(found) != len(calls):
        raise ValueError(f"{len(calls)} calls, {len(found)} answers")
    return found


def after(before, *calls):
    """What the calls answer that stand behind those of before."""
    return answered(*before, *calls)[len(before):]


def row(text):
    return list(bytes.fromhex(text))


def some_bytes(count, seed):
    """Bytes without a plain pattern, the same each time."""
    found = []
    for place in range(count):
        seed = (seed * 1103515245 + 12345) % 2147483648
        found.append(seed // 65536 % 256)
    return found


def some_key(cipher, seed=1):
    return ck_key(cipher, some_bytes(KEY_SIZES[cipher], seed))


def exclusive_or(first, second):
    return [x ^ y for x, y in zip(first, second)]
