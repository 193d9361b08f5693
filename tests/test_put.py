"""Promise 2: put."""

from tests.helper import (PLAIN_DATA, PLAIN_KEY, PLAIN_SALT, ZERO_KEY, ListCase, all_pages, drop, fresh, get, joined,
                          key_with, page, places_asked, put, run, things_of, told)

ZERO_SALT = [0] * 16


class Refused(ListCase):
    def test_no_whole_key(self):
        for size in (0, 1, 31):
            self.assertEqual(run([put(0, [7] * size, PLAIN_DATA, [])]), [[-22, 0]], size)

    def test_five_keys_and_more(self):
        for size in (160, 161, 191, 192, 256, 288, 1000):
            self.assertEqual(run([put(0, [7] * size, PLAIN_DATA, [])]), [[-22, 0]], size)

    def test_slot_above_63(self):
        for i in (64, 65, 127, 128, 255, 256, 1023, 1024, 65536, 4294967295):
            for m in (1, 4):
                self.assertEqual(run([put(i, PLAIN_KEY * m, PLAIN_DATA, [])]), [[-22, 0]], (i, m))

    def test_both_at_once(self):
        self.assertEqual(run([put(64, [], PLAIN_DATA, [])]), [[-22, 0]])
        self.assertEqual(run([put(4294967295, [1] * 160, PLAIN_DATA, [])]), [[-22, 0]])

    def test_leaves_everything_as_it_was(self):
        wrong = [put(0, [], PLAIN_DATA, []), put(0, PLAIN_KEY * 5, PLAIN_DATA, []), put(64, PLAIN_KEY, PLAIN_DATA, [])]
        self.assertEqual(run(wrong + all_pages())[3:], run(all_pages()))
        self.assertEqual(run([fresh(8)] + wrong + all_pages())[4:], run([fresh(8)] + all_pages())[1:])

    def test_calls_behind_it_are_answered(self):
        seen = run([put(64, [9] * 40, PLAIN_DATA, []), put(63, PLAIN_KEY, PLAIN_DATA, PLAIN_SALT), get(63, PLAIN_KEY)])
        self.assertEqual(seen[0], [-22, 0])
        self.assertEqual(seen[1][0], 0)
        self.assertEqual(seen[2][:65], [0] + PLAIN_DATA)


class Put(ListCase):
    def test_zero_key_number_by_number(self):
        data = [255] * 64
        row = ZERO_SALT + list(range(16)) + [255 - (16 + d) for d in range(64)]
        seen = run([put(0, ZERO_KEY, data, ZERO_SALT), page(0)])
        numbers = [0, 67]
        for j in range(64):
            numbers += [4, j]
        numbers += [3, 16, 5] + ZERO_SALT + [2, 0] + row
        self.assertEqual(seen[0], numbers)
        self.assertEqual(len(seen[0]), 2 + 128 + 2 + 17 + 98)
        self.assertEqual(seen[1], [0] + row)

    def test_pad_bytes(self):
        row = run([put(0, PLAIN_KEY, [0] * 64, PLAIN_SALT), page(513)])[1][1:]
        self.assertEqual(row[:16], PLAIN_SALT)
        # Byte i of the pad: 3 * (i % 32 + 1) + 5 * (100 + i % 16) + i, modulo 256.
        self.assertEqual(row[16:20], [247, 0, 9, 18])
        self.assertEqual(row[16 + 15], 126)
        self.assertEqual(row[16 + 16], 55)
        self.assertEqual(row[16 + 31], 190)
        self.assertEqual(row[16 + 32], 23)
        self.assertEqual(row[16 + 64], 55)
        self.assertEqual(row[16 + 79], 190)

    def test_data_is_xor_the_pad(self):
        bare = run([put(0, PLAIN_KEY, [0] * 64, PLAIN_SALT), page(513)])[1][1:]
        row = run([put(0, PLAIN_KEY, PLAIN_DATA, PLAIN_SALT), page(513)])[1][1:]
        self.assertEqual(row[:32], bare[:32])
        self.assertEqual([one ^ two for one, two in zip(row[32:], bare[32:])], PLAIN_DATA)

    def test_slots_and_their_pages(self):
        cases = (
            (PLAIN_KEY, 0, 513), (PLAIN_KEY, 1, 520), (PLAIN_KEY, 62, 947), (PLAIN_KEY, 63, 954),
            (ZERO_KEY, 63, 63),
            # 232 + 3 * 256 = 1000; b = 511; 1000 + 511 * 63 = 33193 = 32 * 1024 + 425
            (key_with(232, 3, 255), 0, 1000), (key_with(232, 3, 255), 1, 487), (key_with(232, 3, 255), 63, 425),
            # Of byte 1 only the rest modulo 4 counts.
            (key_with(5, 4, 0), 0, 5), (key_with(5, 255, 0), 0, 773), (key_with(5, 129, 1), 63, 450),
            (key_with(255, 3, 0), 0, 1023), (key_with(255, 3, 0), 1, 0), (key_with(255, 3, 0), 63, 62),
        )
        for key, i, number in cases:
            seen = run([put(i, key, PLAIN_DATA, PLAIN_SALT)] + all_pages())
            things = things_of(seen[0][1:])
            self.assertEqual(things[-1][:2], [2, number])
            self.assertEqual(seen[1 + number], [0] + things[-1][2:])
            changed = [p for p in range(1024) if seen[1 + p] != [0] + [0] * 96]
            self.assertEqual(changed, [number])

    def test_what_is_asked_in_order(self):
        for i in (0, 1, 31, 63):
            seen = run([put(i, PLAIN_KEY, PLAIN_DATA, PLAIN_SALT), page(513 + 7 * i)])
            things = places_asked(64) + [[3, 16], [5] + PLAIN_SALT, [2, 513 + 7 * i] + seen[1][1:]]
            self.assertEqual(seen[0], [0] + told(things), i)

    def test_left_over_bytes_are_not_looked_at(self):
        for m in (1, 2, 3, 4):
            keys = joined(*[key_with(40 * k, k, 3 * k + 1, k) for k in range(m)])
            seen = run([put(63, keys, PLAIN_DATA, PLAIN_SALT)] + all_pages())
            for over in (1, 17, 31):
                longer = keys + [200 + over] * over
                self.assertEqual(run([put(63, longer, PLAIN_DATA, PLAIN_SALT)] + all_pages()), seen, (m, over))

    def test_second_put_into_a_slot_takes_its_own_salt(self):
        other = [(9 * i + 1) % 256 for i in range(64)]
        salt = [250 - i for i in range(16)]
        seen = run([put(4, PLAIN_KEY, PLAIN_DATA, PLAIN_SALT), put(4, PLAIN_KEY, other, salt), page(541),
                    get(4, PLAIN_KEY)])
        alone = run([put(4, PLAIN_KEY, other, salt), page(541)])
        self.assertEqual(seen[1:3], alone)
        self.assertEqual(seen[2][1:17], salt)
        self.assertEqual(seen[3][:65], [0] + other)

    def test_what_was_on_the_page_is_not_read(self):
        alone = run([put(4, PLAIN_KEY, PLAIN_DATA, PLAIN_SALT), page(541)])
        self.assertEqual(run([fresh(17), put(4, PLAIN_KEY, PLAIN_DATA, PLAIN_SALT), page(541)])[1:], alone)
        dropped = [drop(4, PLAIN_KEY, [9] * 96), put(4, PLAIN_KEY, PLAIN_DATA, PLAIN_SALT), page(541)]
        self.assertEqual(run(dropped)[1:], alone)

    def test_a_page_shown_before_shows_the_new_bytes(self):
        seen = run([page(513), put(0, PLAIN_KEY, PLAIN_DATA, PLAIN_SALT), page(513)])
        self.assertEqual(seen[0], [0] + [0] * 96)
        self.assertEqual(seen[2][1:17], PLAIN_SALT)
