"""Promises 1 and 5: fresh and page."""

from tests.helper import (PLAIN_DATA, PLAIN_KEY, PLAIN_SALT, ListCase, all_pages, drop, expected, fresh, get, key_with,
                          page, put, run)

LARGE = 4294967295


class Page(ListCase):
    def test_all_pages_are_0s_at_first(self):
        self.assertEqual(run(all_pages()), [[0] + [0] * 96] * 1024)

    def test_number_is_taken_modulo_1024(self):
        seen = run([fresh(3), page(0), page(1024), page(1023), page(2047), page(LARGE), page(5), page(1029), page(2053)])
        self.assertEqual(seen[1], seen[2])
        self.assertEqual(seen[3], seen[4])
        self.assertEqual(seen[3], seen[5])
        self.assertEqual(seen[6], seen[7])
        self.assertEqual(seen[6], seen[8])
        self.assertNotEqual(seen[1], seen[3])
        self.assertNotEqual(seen[1], seen[6])

    def test_large_number_shows_what_was_put(self):
        seen = run([put(0, PLAIN_KEY, PLAIN_DATA, PLAIN_SALT), page(513), page(513 + 1024), page(512)])
        self.assertEqual(seen[1], seen[2])
        self.assertEqual(seen[1][1:17], PLAIN_SALT)
        self.assertEqual(seen[3], [0] + [0] * 96)

    def test_looking_changes_nothing(self):
        once = run([fresh(9)] + all_pages())[1:]
        twice = run([fresh(9)] + all_pages() + all_pages())[1025:]
        self.assertEqual(once, twice)


class Fresh(ListCase):
    def test_answers_0_alone(self):
        self.assertEqual(run([fresh(0)]), [[0]])
        self.assertEqual(run([fresh(LARGE), fresh(1)]), [[0], [0]])

    def test_bytes_with_seed_0(self):
        seen = run([fresh(0), page(0), page(1), page(1023)])
        self.assertEqual(seen[1][:5], [0, 0, 13, 26, 39])
        # 13 * 95 = 1235 = 4 * 256 + 211
        self.assertEqual(seen[1][96], 211)
        self.assertEqual(seen[2][:4], [0, 7, 20, 33])
        self.assertEqual(seen[2][96], 218)
        # 7 * 1023 = 7161 = 27 * 256 + 249
        self.assertEqual(seen[3][:4], [0, 249, 6, 19])
        self.assertEqual(seen[3][96], 204)

    def test_bytes_with_large_seeds(self):
        # 4294967295 is 255 modulo 256; 4294967040 is 0, 1000000007 is 7.
        for seed, first in ((LARGE, 255), (4294967040, 0), (1000000007, 7), (255, 255), (256, 0), (257, 1)):
            seen = run([fresh(seed), page(0), page(1), page(1023)])
            for number, answer in ((0, seen[1]), (1, seen[2]), (1023, seen[3])):
                row = [(first + 7 * number + 13 * i) % 256 for i in range(96)]
                self.assertEqual(answer, [0] + row, (seed, number))

    def test_every_page_is_written(self):
        calls = [fresh(77)] + all_pages()
        self.assertEqual(run(calls), expected(calls))

    def test_a_second_time(self):
        seen = run([fresh(5), fresh(200)] + all_pages())
        self.assertEqual(seen[2:], run([fresh(200)] + all_pages())[1:])
        self.assertNotEqual(seen[2:], run([fresh(5)] + all_pages())[1:])

    def test_takes_away_what_was_put_and_dropped(self):
        other = key_with(9, 1, 4)
        written = [put(63, PLAIN_KEY, PLAIN_DATA, PLAIN_SALT), drop(0, other, [8] * 96)]
        seen = run(written + [fresh(40)] + all_pages() + [get(63, PLAIN_KEY)])
        self.assertEqual(seen[3:-1], run([fresh(40)] + all_pages())[1:])
        self.assertEqual(seen[-1][0], -2)

    def test_put_after_fresh_changes_one_page_alone(self):
        seen = run([fresh(40), put(1, PLAIN_KEY, PLAIN_DATA, PLAIN_SALT)] + all_pages())[2:]
        filled = run([fresh(40)] + all_pages())[1:]
        self.assertEqual([number for number in range(1024) if seen[number] != filled[number]], [520])

    def test_thousands_in_one_list(self):
        seen = run([fresh(seed) for seed in range(4999)] + [page(2)])
        self.assertEqual(seen[:4999], [[0]] * 4999)
        self.assertEqual(seen[4999][1], (4998 + 14) % 256)
