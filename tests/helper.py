"""Rows of calls, their answers taken apart, and what the document asks, worked out another way."""

import unittest

from hiddendrawers.medium import answers

ZERO_KEY = [0] * 32
# a = 1 + 256 * 2 = 513, b = 7: place j is 513 + 7 * j, modulo 1,024.
PLAIN_KEY = list(range(1, 33))
PLAIN_SALT = list(range(100, 116))
PLAIN_DATA = [(5 * i + 200) % 256 for i in range(64)]


class ListCase(unittest.TestCase):
    """Tells of two lists where they first differ: the usual whole comparison of long ones takes minutes."""

    def setUp(self):
        self.addTypeEqualityFunc(list, self.assert_same_lists)

    def assert_same_lists(self, seen, wanted, msg=None):
        if seen == wanted:
            return
        at = 0
        while at < min(len(seen), len(wanted)) and seen[at] == wanted[at]:
            at += 1
        self.fail(f"{msg or ''} at {at} of {len(seen)} and {len(wanted)}: {seen[at:at + 1]} != {wanted[at:at + 1]}")


def fresh(seed):
    return [0, seed]


def put(i, keys, data, script):
    return [1, i, len(keys)] + keys + [len(data)] + data + [len(script)] + script


def get(i, keys):
    return [2, i, len(keys)] + keys


def drop(i, keys, script):
    return [3, i, len(keys)] + keys + [len(script)] + script


def page(number):
    return [4, number]


def all_pages():
    return [page(number) for number in range(1024)]


def run(calls):
    """Each call's answer, as a list of its own; the calls are lists made by the functions above."""
    line = [number for call in calls for number in call]
    if len(line) > 30000 or len(calls) > 5000:
        raise AssertionError("more than a list may hold")
    before = list(line)
    given = answers(line)
    if line != before:
        raise AssertionError("the list handed in was changed")
    if len(given) - len(calls) >= 1000000:
        raise AssertionError("more than the answers of a list may hold")
    if not isinstance(given, list) or any(type(number) is not int for number in given):
        raise AssertionError("not a list of whole numbers")
    found = []
    at = 0
    while at < len(given):
        size = given[at]
        found.append(given[at + 1:at + 1 + size])
        if size < 1 or len(found[-1]) != size:
            raise AssertionError("an answer is shorter than it says")
        at += 1 + size
    if len(found) != len(calls):
        raise AssertionError("not one answer for each call")
    return found


def key_with(first, second, third, rest=0):
    return [first, second, third] + [(rest + 11 * i) % 256 for i in range(29)]


def joined(*keys):
    return [byte for key in keys for byte in key]


def things_of(numbers):
    """What's asked, taken apart: the count ahead of it has to fit."""
    sizes = {1: 2, 2: 98, 3: 2, 4: 2, 5: 17}
    found = []
    at = 1
    while at < len(numbers):
        size = sizes[numbers[at]]
        found.append(numbers[at:at + size])
        at += size
    if at != len(numbers) or numbers[0] != len(found):
        raise AssertionError("what's asked doesn't fit its count")
    return found


def told(things):
    return [len(things)] + joined(*things)


def places_asked(*counts):
    """The places asked for: as many as each count from j = 0 on."""
    return [[4, j] for count in counts for j in range(count)]


class Expected:
    """The document's words, call by call, with every page written out."""

    def __init__(self):
        self.pages = [[0] * 96 for number in range(1024)]

    def sought(self, keys):
        """Each key's drawer, one behind another, and the places asked for."""
        drawers = []
        things = []
        for key in keys:
            walk = [(key[0] + (key[1] & 3) * 256 + (key[2] + key[2] + 1) * j) & 1023 for j in range(1024)]
            taken = {number for drawer in drawers for number in drawer}
            mine = [j for j in range(1024) if walk[j] not in taken][:64]
            things += places_asked(mine[-1] + 1)
            drawers.append([walk[j] for j in mine])
        return drawers, things

    def hidden(self, key, salt, row):
        longer = (key * 3)[:80]
        salts = salt * 5
        return [row[i] ^ ((longer[i] * 3 + salts[i] * 5 + i) & 255) for i in range(80)]

    def answer(self, call):
        if call[0] == 0:
            self.pages = [[(call[1] + 7 * p + 13 * i) % 256 for i in range(96)] for p in range(1024)]
            return [0]
        if call[0] == 4:
            return [0] + self.pages[call[1] % 1024]
        count = call[2]
        keys = [call[3 + 32 * k:35 + 32 * k] for k in range(count // 32)]
        if call[1] > 63 or not 1 <= len(keys) <= 4:
            return [-22, 0]
        drawers, things = self.sought(keys)
        number = drawers[-1][call[1]]
        if call[0] == 1:
            data, salt = call[4 + count:68 + count], call[69 + count:]
            self.pages[number] = salt + self.hidden(keys[-1], salt, [0] * 16 + data)
            return [0] + told(things + [[3, 16], [5] + salt, [2, number] + self.pages[number]])
        if call[0] == 3:
            self.pages[number] = call[4 + count:]
            return [0] + told(things + [[3, 96], [2, number] + self.pages[number]])
        salt = self.pages[number][:16]
        shown = self.hidden(keys[-1], salt, self.pages[number][16:])
        first = [0] + shown[16:] if shown[:16] == [0] * 16 else [-2]
        return first + told(things + [[1, number], [5] + salt])


def expected(calls):
    medium = Expected()
    return [medium.answer(call) for call in calls]
