"""Several calls in one list, and what answers keeps to whatever the calls are."""

import contextlib
import io

from hiddendrawers.medium import answers
from tests.helper import (PLAIN_DATA, PLAIN_KEY, PLAIN_SALT, ListCase, all_pages, drop, expected, fresh, get, joined,
                          key_with, page, put, run)


class Draw:
    """Numbers that look mixed and are the same on each run."""

    def __init__(self, seed):
        self.state = seed

    def below(self, limit):
        self.state = (self.state * 6364136223846793005 + 1442695040888963407) % 2 ** 64
        return (self.state >> 33) % limit

    def row(self, size):
        return [self.below(256) for i in range(size)]

    def call(self, chain):
        kind = self.below(12)
        if kind == 0:
            return fresh(self.below(2 ** 32))
        if kind == 1:
            return page(self.below(2 ** 32))
        m = self.below(5) if kind == 2 else 1 + self.below(4)
        keys = joined(*chain[:m]) + self.row(self.below(32))
        i = self.below(70) if kind == 3 else self.below(2) * 60 + self.below(4)
        refused = m == 0 or i > 63
        if kind < 6:
            return drop(i, keys, [] if refused else self.row(96))
        if kind < 9:
            return put(i, keys, self.row(64), [] if refused else self.row(16))
        return get(i, keys)


class Lines(ListCase):
    def test_form_of_the_first_and_the_last_answer(self):
        line = fresh(1) + put(64, PLAIN_KEY, PLAIN_DATA, []) + get(0, [1] * 31) + drop(64, [], []) + page(0)
        row = [(1 + 13 * i) % 256 for i in range(96)]
        self.assertEqual(answers(line), [1, 0, 2, -22, 0, 2, -22, 0, 2, -22, 0, 97, 0] + row)

    def test_one_call_alone(self):
        self.assertEqual(answers(fresh(4294967295)), [1, 0])
        self.assertEqual(answers(page(4294967295)), [97, 0] + [0] * 96)
        given = answers(get(0, PLAIN_KEY))
        self.assertEqual(given[:5], [149, -2, 66, 4, 0])
        self.assertEqual(len(given), 150)
        given = answers(put(0, PLAIN_KEY, PLAIN_DATA, PLAIN_SALT) + get(0, PLAIN_KEY))
        self.assertEqual(given[:5], [247, 0, 67, 4, 0])
        self.assertEqual(given[248:250], [213, 0])
        self.assertEqual(given[250:314], PLAIN_DATA)
        self.assertEqual(given[314:317], [66, 4, 0])
        self.assertEqual(len(given), 248 + 214)

    def test_each_list_begins_with_a_new_medium(self):
        calls = [get(0, PLAIN_KEY), page(513), put(0, PLAIN_KEY, PLAIN_DATA, PLAIN_SALT), fresh(3)]
        first = run(calls)
        self.assertEqual(run(calls), first)
        self.assertEqual(first[0][0], -2)
        self.assertEqual(run([put(1, PLAIN_KEY, PLAIN_DATA, PLAIN_SALT)] + all_pages()),
                         run([put(1, PLAIN_KEY, PLAIN_DATA, PLAIN_SALT)] + all_pages()))
        self.assertEqual(run(all_pages()), [[0] + [0] * 96] * 1024)

    def test_what_was_given_back_is_not_kept(self):
        line = put(0, PLAIN_KEY, PLAIN_DATA, PLAIN_SALT) + page(513) + page(513)
        given = answers(line)
        kept = list(given)
        given.clear()
        self.assertEqual(answers(line), kept)

    def test_list_handed_in_is_the_same_afterwards(self):
        line = fresh(2) + put(63, PLAIN_KEY, PLAIN_DATA, PLAIN_SALT) + get(63, PLAIN_KEY) + page(1023)
        before = list(line)
        answers(line)
        self.assertEqual(line, before)

    def test_prints_nothing(self):
        out, err = io.StringIO(), io.StringIO()
        with contextlib.redirect_stdout(out), contextlib.redirect_stderr(err):
            answers(fresh(2) + put(63, PLAIN_KEY, PLAIN_DATA, PLAIN_SALT) + get(63, PLAIN_KEY) + page(1023))
            answers(get(64, []))
        self.assertEqual((out.getvalue(), err.getvalue()), ("", ""))

    def test_two_chains_on_one_medium(self):
        one, two = key_with(0, 0, 0, 1), key_with(0, 0, 0, 2)
        calls = [put(3, one, PLAIN_DATA, PLAIN_SALT), put(3, two, [9] * 64, [8] * 16), get(3, one), get(3, two)]
        seen = run(calls)
        self.assertEqual(seen[2][0], -2)
        self.assertEqual(seen[3][:65], [0] + [9] * 64)
        self.assertEqual(seen, expected(calls))

    def test_mixed_lists(self):
        for seed in range(60):
            draw = Draw(seed)
            near = [[draw.below(64), 4 * draw.below(64), draw.below(3)] + draw.row(29) for k in range(4)]
            far = [draw.row(32) for k in range(4)]
            again = [far[0], far[1], far[0], far[draw.below(2)]]
            for chain in (near, far, again):
                calls = [draw.call(chain) for k in range(25)]
                self.assertEqual(run(calls), expected(calls), seed)

    def test_longest_lists(self):
        calls = [get(63, PLAIN_KEY * 4) for k in range(229)]
        seen = run(calls)
        self.assertEqual(seen, [seen[0]] * 229)
        self.assertEqual(seen[0][:2], [-2, 642])
        self.assertEqual(run([page(k) for k in range(5000)]), [[0] + [0] * 96] * 5000)
