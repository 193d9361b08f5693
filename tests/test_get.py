"""Promise 3: get."""

from tests.helper import (PLAIN_DATA, PLAIN_KEY, PLAIN_SALT, ZERO_KEY, ListCase, all_pages, drop, expected, fresh, get,
                          key_with, page, places_asked, put, run, told)


class Refused(ListCase):
    def test_no_whole_key(self):
        for size in (0, 1, 31):
            self.assertEqual(run([get(0, [7] * size)]), [[-22, 0]], size)

    def test_five_keys_and_more(self):
        for size in (160, 161, 192, 256, 288, 1000):
            self.assertEqual(run([get(0, [7] * size)]), [[-22, 0]], size)

    def test_slot_above_63(self):
        for i in (64, 127, 128, 1024, 4294967295):
            for m in (1, 4):
                seen = run([put(0, PLAIN_KEY * m, PLAIN_DATA, PLAIN_SALT), get(i, PLAIN_KEY * m)])
                self.assertEqual(seen[1], [-22, 0], (i, m))

    def test_both_at_once(self):
        self.assertEqual(run([get(64, [])]), [[-22, 0]])


class Nothing(ListCase):
    def test_pages_all_0s(self):
        for i in (0, 1, 63):
            things = places_asked(64) + [[1, 513 + 7 * i], [5] + [0] * 16]
            self.assertEqual(run([get(i, PLAIN_KEY)]), [[-2] + told(things)])

    def test_after_fresh(self):
        seen = run([put(0, PLAIN_KEY, PLAIN_DATA, PLAIN_SALT), fresh(2), get(0, PLAIN_KEY)])
        salt = [(2 + 7 * 513 + 13 * i) % 256 for i in range(16)]
        self.assertEqual(seen[2], [-2] + told(places_asked(64) + [[1, 513], [5] + salt]))

    def test_after_drop(self):
        script = [(3 * i + 90) % 256 for i in range(96)]
        seen = run([put(63, PLAIN_KEY, PLAIN_DATA, PLAIN_SALT), drop(63, PLAIN_KEY, script), get(63, PLAIN_KEY)])
        self.assertEqual(seen[2], [-2] + told(places_asked(64) + [[1, 954], [5] + script[:16]]))

    def test_other_slots(self):
        seen = run([put(5, PLAIN_KEY, PLAIN_DATA, PLAIN_SALT)] + [get(i, PLAIN_KEY) for i in range(64)])
        self.assertEqual([i for i in range(64) if seen[1 + i][0] != -2], [5])

    def test_under_another_key_at_the_same_place(self):
        # Byte 1 counts for the place modulo 4 alone, bytes 3 to 15 not at all: only the pad differs, in one byte.
        for at, by in ((1, 4), (1, 128), (3, 1), (7, 128), (14, 64), (15, 1), (15, 255)):
            other = list(PLAIN_KEY)
            other[at] = (other[at] + by) % 256
            seen = run([put(2, PLAIN_KEY, PLAIN_DATA, PLAIN_SALT), get(2, other), get(2, PLAIN_KEY)])
            things = places_asked(64) + [[1, 527], [5] + PLAIN_SALT]
            self.assertEqual(seen[1], [-2] + told(things), (at, by))
            self.assertEqual(seen[2], [0] + PLAIN_DATA + told(things))

    def test_under_a_key_whose_byte_0_differs(self):
        # Both step by 1, so slot 6 of the one is on the page of slot 7 of the other.
        seen = run([put(7, key_with(10, 0, 0), PLAIN_DATA, PLAIN_SALT), get(6, key_with(11, 0, 0))])
        self.assertEqual(seen[1], [-2] + told(places_asked(64) + [[1, 17], [5] + PLAIN_SALT]))


class Got(ListCase):
    def test_what_was_put(self):
        for i in (0, 1, 32, 62, 63):
            seen = run([put(i, PLAIN_KEY, PLAIN_DATA, PLAIN_SALT), get(i, PLAIN_KEY)])
            things = places_asked(64) + [[1, 513 + 7 * i], [5] + PLAIN_SALT]
            self.assertEqual(seen[1], [0] + PLAIN_DATA + told(things))

    def test_extreme_bytes(self):
        for byte in (0, 255):
            for filling in (0, 255):
                calls = [put(63, [filling] * 32, [byte] * 64, [filling] * 16), get(63, [filling] * 32)]
                self.assertEqual(run(calls)[1][:65], [0] + [byte] * 64)

    def test_left_over_bytes_are_not_looked_at(self):
        for over in (1, 31):
            seen = run([put(9, PLAIN_KEY, PLAIN_DATA, PLAIN_SALT), get(9, PLAIN_KEY + [77] * over), get(9, PLAIN_KEY)])
            self.assertEqual(seen[1], seen[2])
            self.assertEqual(seen[1][:65], [0] + PLAIN_DATA)

    def test_twice_and_pages_stay(self):
        calls = [fresh(1), put(9, PLAIN_KEY, PLAIN_DATA, PLAIN_SALT)]
        plain = run(calls + all_pages())[2:]
        seen = run(calls + [get(9, PLAIN_KEY), get(8, PLAIN_KEY), get(9, PLAIN_KEY)] + all_pages())
        self.assertEqual(seen[2], seen[4])
        self.assertEqual(seen[5:], plain)

    def test_all_slots_full(self):
        rows = [[(i + 3 * d) % 256 for d in range(64)] for i in range(64)]
        calls = [put(i, PLAIN_KEY, rows[i], [i] * 16) for i in range(64)] + [get(i, PLAIN_KEY) for i in range(64)]
        seen = run(calls)
        for i in range(64):
            self.assertEqual(seen[64 + i][:65], [0] + rows[i])

    def test_only_the_16_bytes_decide(self):
        # Keys that differ behind byte 15 alone have the same 16 bytes of pad: the slot is theirs, with other bytes.
        other = list(PLAIN_KEY)
        other[31] = 0
        calls = [put(2, PLAIN_KEY, PLAIN_DATA, PLAIN_SALT), get(2, other)]
        seen = run(calls)
        self.assertEqual(seen[1][0], 0)
        self.assertNotEqual(seen[1][1:65], PLAIN_DATA)
        self.assertEqual(seen, expected(calls))

    def test_page_of_0s_under_a_pad_of_0s(self):
        # 3 * 85 = 255: the pad's byte i, 3 * (85 * i modulo 256) + i, is 0 where the salt is 0.
        key = [85 * i % 256 for i in range(32)]
        # a = 0 + 256 * (85 % 4) = 256
        things = places_asked(64) + [[1, 256], [5] + [0] * 16]
        shown = [0] * 16 + [32] * 32 + [64] * 16
        self.assertEqual(run([get(0, key)]), [[0] + shown + told(things)])

    def test_dropped_to_the_very_bytes_that_were_put(self):
        row = run([put(2, PLAIN_KEY, PLAIN_DATA, PLAIN_SALT), page(527)])[1][1:]
        seen = run([drop(2, PLAIN_KEY, row), get(2, PLAIN_KEY)])
        self.assertEqual(seen[1][:65], [0] + PLAIN_DATA)

    def test_zero_key_number_by_number(self):
        seen = run([put(3, ZERO_KEY, PLAIN_DATA, [1] * 16), get(3, ZERO_KEY)])
        numbers = [0] + PLAIN_DATA + [66]
        for j in range(64):
            numbers += [4, j]
        self.assertEqual(seen[1], numbers + [1, 3, 5] + [1] * 16)
