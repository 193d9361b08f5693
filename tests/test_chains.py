"""Chains of 1 to 4 keys: whose the places are, and what holds through all drawers of a chain."""

from tests.helper import (PLAIN_DATA, PLAIN_SALT, ZERO_KEY, ListCase, drop, expected, fresh, get, joined, key_with,
                          page, places_asked, put, run, things_of, told)

SCRIPT = [(11 * i + 5) % 256 for i in range(96)]


def page_of(keys, i):
    """The page that put writes for slot i."""
    return things_of(run([put(i, keys, PLAIN_DATA, PLAIN_SALT)])[0][1:])[-1][1]


def asked_by(keys, i):
    """The places asked for, in get, in put and in drop alike."""
    calls = [get(i, keys), put(i, keys, PLAIN_DATA, PLAIN_SALT), drop(i, keys, SCRIPT)]
    found = [[thing for thing in things_of(answer[1:]) if thing[0] == 4] for answer in run(calls)]
    if found[0] != found[1] or found[0] != found[2]:
        raise AssertionError("other places asked for")
    return found[0]


class Places(ListCase):
    def test_keys_that_share_nothing(self):
        # They begin at 0, 256, 512 and 768, each in steps of 1.
        keys = [key_with(0, k, 0, k) for k in range(4)]
        for m in (1, 2, 3, 4):
            for i in (0, 63):
                self.assertEqual(page_of(joined(*keys[:m]), i), 256 * (m - 1) + i)
                self.assertEqual(asked_by(joined(*keys[:m]), i), places_asked(*[64] * m))

    def test_shared_places_go_to_the_earlier_key(self):
        # The first has pages 0 to 63; the second would have 32 to 95 and gets 64 to 127.
        first, second = key_with(0, 0, 0), key_with(32, 0, 0, 5)
        for i in (0, 1, 63):
            self.assertEqual(page_of(first, i), i)
            self.assertEqual(page_of(first + second, i), 64 + i)
            self.assertEqual(asked_by(first + second, i), places_asked(64, 96))
            # The other way round the second has 32 to 95, and the first 0 to 31, then 96 to 127.
            self.assertEqual(page_of(second + first, i), i if i < 32 else 64 + i)
            self.assertEqual(asked_by(second + first, i), places_asked(64, 128))

    def test_a_last_place_shared(self):
        # The second has 1 to 64, but for 1 to 63 that are the first's: 64 to 127.
        self.assertEqual(page_of(key_with(0, 0, 0) + key_with(1, 0, 0), 63), 127)
        # The second would have 961 to 1024, of which 1024 is page 0, the first's: it goes on with 64.
        keys = key_with(0, 0, 0) + key_with(193, 3, 0)
        self.assertEqual([page_of(keys, i) for i in (0, 62, 63)], [961, 1023, 64])
        self.assertEqual(asked_by(keys, 0), places_asked(64, 128))

    def test_steps_that_cross(self):
        # The first has 0 to 63; the second has 0, 3, 6, .. of which 0 to 63 are 22.
        keys = key_with(0, 0, 0) + key_with(0, 0, 1)
        self.assertEqual([page_of(keys, i) for i in (0, 1, 63)], [66, 69, 255])
        self.assertEqual(asked_by(keys, 63), places_asked(64, 86))

    def test_places_of_all_beginnings_are_left_out(self):
        # The third steps back over the first's and the second's: 0 to 63, and 64 to 127.
        keys = key_with(0, 0, 0) + key_with(64, 0, 0) + key_with(32, 0, 0)
        self.assertEqual([page_of(keys, i) for i in (0, 63)], [128, 191])
        self.assertEqual(asked_by(keys, 0), places_asked(64, 64, 160))
        fourth = keys + key_with(0, 0, 0, 9)
        self.assertEqual([page_of(fourth, i) for i in (0, 63)], [192, 255])
        self.assertEqual(asked_by(fourth, 0), places_asked(64, 64, 160, 256))

    def test_a_place_goes_on_being_sought_where_the_drawer_before_was_pushed(self):
        # The second is pushed from 0 to 64 .. 127, so the third, that begins at 64, is pushed to 128.
        keys = key_with(0, 0, 0) + key_with(0, 0, 0, 3) + key_with(64, 0, 0)
        self.assertEqual([page_of(keys, i) for i in (0, 63)], [128, 191])
        self.assertEqual(asked_by(keys, 0), places_asked(64, 128, 128))

    def test_same_key_again(self):
        # Counts of one to four of the same key: j goes on past all places of the ones before.
        for key in (ZERO_KEY, key_with(232, 3, 255), [255] * 32):
            start = key[0] + 256 * (key[1] % 4)
            step = 2 * key[2] + 1
            for m, counts in ((1, [64]), (2, [64, 128]), (3, [64, 128, 192]), (4, [64, 128, 192, 256])):
                for i in (0, 63):
                    self.assertEqual(page_of(key * m, i), (start + step * (64 * (m - 1) + i)) % 1024)
                    self.assertEqual(asked_by(key * m, i), places_asked(*counts))

    def test_same_key_further_on(self):
        first, second = key_with(0, 0, 0), key_with(0, 2, 0)
        self.assertEqual(page_of(first + second + first, 0), 64)
        self.assertEqual(asked_by(first + second + first, 63), places_asked(64, 64, 128))
        self.assertEqual(page_of(first + second + first + second, 63), 639)
        self.assertEqual(asked_by(first + second + first + second, 63), places_asked(64, 64, 128, 128))

    def test_places_shared_here_and_there(self):
        # The three ahead have 64 to 255. The fourth goes 255, 766, 253, 764, ..: every other place is theirs.
        keys = key_with(192, 0, 0) + key_with(128, 0, 0) + key_with(64, 0, 0) + key_with(255, 0, 255)
        self.assertEqual([page_of(keys, i) for i in (0, 1, 63)], [766, 764, 640])
        self.assertEqual(asked_by(keys, 1), places_asked(64, 64, 64, 128))

    def test_order_of_keys_matters(self):
        first, second = key_with(0, 0, 0), key_with(7, 2, 3)
        self.assertEqual(page_of(first + second, 0), 519)
        self.assertEqual(page_of(second + first, 0), 0)

    def test_what_is_asked_whole(self):
        keys = joined(key_with(0, 0, 0), key_with(32, 0, 0), key_with(0, 2, 0))
        things = places_asked(64, 96, 64)
        seen = run([put(2, keys, PLAIN_DATA, PLAIN_SALT), get(2, keys), drop(2, keys, SCRIPT), get(2, keys), page(514)])
        row = things_of(seen[0][1:])[-1][2:]
        self.assertEqual(seen[0], [0] + told(things + [[3, 16], [5] + PLAIN_SALT, [2, 514] + row]))
        self.assertEqual(seen[1], [0] + PLAIN_DATA + told(things + [[1, 514], [5] + PLAIN_SALT]))
        self.assertEqual(seen[2], [0] + told(things + [[3, 96], [2, 514] + SCRIPT]))
        self.assertEqual(seen[3], [-2] + told(things + [[1, 514], [5] + SCRIPT[:16]]))
        self.assertEqual(seen[4], [0] + SCRIPT)


class Pad(ListCase):
    def test_of_the_last_key(self):
        first, second = key_with(0, 0, 0, 50), key_with(0, 2, 0, 90)
        behind = run([put(0, first + second, PLAIN_DATA, PLAIN_SALT), page(512)])[1]
        alone = run([put(0, second, PLAIN_DATA, PLAIN_SALT), page(512)])[1]
        self.assertEqual(behind, alone)

    def test_another_first_key_is_not_told_where_the_place_is_the_same(self):
        # The last key's pad and place are the same, so the slot is got, whatever the first key.
        second = key_with(0, 2, 0, 90)
        seen = run([put(5, key_with(0, 0, 0) + second, PLAIN_DATA, PLAIN_SALT), get(5, key_with(0, 1, 0) + second),
                    get(5, second)])
        self.assertEqual(seen[1][:65], [0] + PLAIN_DATA)
        self.assertEqual(seen[2][:65], [0] + PLAIN_DATA)


class Holds(ListCase):
    """What was put in one drawer is got, whatever is done in the others of its chain."""

    def chains(self):
        near = [key_with(10 * k, 0, k, 30 * k) for k in range(4)]
        same = [key_with(200, 1, 77, 4)] * 4
        wide = [key_with(250, 3, 255, 1), key_with(3, 0, 0, 2), key_with(0, 2, 128, 3), key_with(250, 3, 255, 1)]
        return [near, same, wide]

    def got_after_puts(self, chain, m, others):
        mine = joined(*chain[:m])
        calls = [put(i, mine, [i + m] * 64, [i] * 16) for i in (0, 31, 63)]
        for other in others:
            keys = joined(*chain[:other])
            calls += [put(i, keys, [200 + other] * 64, [i + 100] * 16) for i in range(64)]
        seen = run(calls + [get(i, mine) for i in (0, 31, 63)])
        self.assertEqual([answer[:65] for answer in seen[-3:]], [[0] + [i + m] * 64 for i in (0, 31, 63)])

    def test_puts_in_all_slots_of_the_others(self):
        # Two others at a time, since a list holds no more numbers; the three beginnings fit into one.
        for chain in self.chains():
            for m, others in ((1, (2, 3)), (1, (3, 4)), (1, (2, 4)), (2, (1, 3)), (2, (3, 4)), (2, (1, 4)), (3, (1, 2)),
                              (3, (2, 4)), (3, (1, 4)), (4, (1, 2, 3))):
                self.got_after_puts(chain, m, others)

    def test_drops_in_all_slots_of_the_others(self):
        for chain in self.chains():
            for m in (1, 4):
                mine = joined(*chain[:m])
                other = joined(*chain[:2])
                calls = [put(63, mine, PLAIN_DATA, PLAIN_SALT)]
                calls += [drop(i, other, SCRIPT) for i in range(64)]
                seen = run(calls + [get(63, mine)])
                self.assertEqual(seen[-1][:65], [0] + PLAIN_DATA)

    def test_all_256_slots_have_pages_of_their_own(self):
        for chain in self.chains():
            numbers = {}
            for m in (1, 2, 3, 4):
                for answer in run([put(i, joined(*chain[:m]), PLAIN_DATA, PLAIN_SALT) for i in range(64)]):
                    numbers[things_of(answer[1:])[-1][1]] = True
            self.assertEqual(len(numbers), 256)

    def test_an_earlier_drawer_is_asked_the_same_whatever_lies_behind(self):
        # Who uses a drawer needs to know of none behind it.
        for chain in self.chains():
            first = joined(*chain[:2])
            behind = [put(i, joined(*chain), PLAIN_DATA, PLAIN_SALT) for i in range(64)]
            mine = [put(7, first, PLAIN_DATA, PLAIN_SALT), get(7, first), get(8, first)]
            self.assertEqual(run(behind + mine)[64:], run(mine))

    def test_until_it_is_put_again_dropped_or_filled_anew(self):
        keys = joined(*self.chains()[0])
        calls = [put(63, keys, PLAIN_DATA, PLAIN_SALT), get(63, keys), put(63, keys, [3] * 64, [4] * 16), get(63, keys),
                 drop(63, keys, SCRIPT), get(63, keys), put(63, keys, [5] * 64, [6] * 16), fresh(0), get(63, keys)]
        seen = run(calls)
        self.assertEqual(seen[1][:65], [0] + PLAIN_DATA)
        self.assertEqual(seen[3][:65], [0] + [3] * 64)
        self.assertEqual(seen[5][0], -2)
        self.assertEqual(seen[8][0], -2)
        self.assertEqual(seen, expected(calls))
