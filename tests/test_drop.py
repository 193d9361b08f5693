"""Promise 4: drop."""

from tests.helper import (PLAIN_DATA, PLAIN_KEY, PLAIN_SALT, ListCase, all_pages, drop, fresh, get, page, places_asked,
                          put, run, told)

SCRIPT = [(11 * i + 5) % 256 for i in range(96)]


class Refused(ListCase):
    def test_no_whole_key(self):
        for size in (0, 1, 31):
            self.assertEqual(run([drop(0, [7] * size, [])]), [[-22, 0]], size)

    def test_five_keys_and_more(self):
        for size in (160, 161, 192, 256, 288, 1000):
            self.assertEqual(run([drop(0, [7] * size, [])]), [[-22, 0]], size)

    def test_slot_above_63(self):
        for i in (64, 127, 128, 1024, 4294967295):
            for m in (1, 4):
                self.assertEqual(run([drop(i, PLAIN_KEY * m, [])]), [[-22, 0]], (i, m))

    def test_leaves_everything_as_it_was(self):
        put_first = put(0, PLAIN_KEY, PLAIN_DATA, PLAIN_SALT)
        wrong = [drop(64, PLAIN_KEY, []), drop(0, PLAIN_KEY[:31], []), drop(0, PLAIN_KEY * 5, [])]
        self.assertEqual(run([put_first] + wrong + all_pages())[4:], run([put_first] + all_pages())[1:])


class Drop(ListCase):
    def test_what_is_asked_and_the_page(self):
        for i in (0, 1, 63):
            number = 513 + 7 * i
            seen = run([put(i, PLAIN_KEY, PLAIN_DATA, PLAIN_SALT), drop(i, PLAIN_KEY, SCRIPT), page(number)])
            things = places_asked(64) + [[3, 96], [2, number] + SCRIPT]
            self.assertEqual(seen[1], [0] + told(things))
            self.assertEqual(len(seen[1]), 2 + 128 + 2 + 98)
            self.assertEqual(seen[2], [0] + SCRIPT)

    def test_slot_that_holds_nothing(self):
        seen = run([drop(63, PLAIN_KEY, SCRIPT)] + all_pages())
        self.assertEqual(seen[0], [0] + told(places_asked(64) + [[3, 96], [2, 954] + SCRIPT]))
        self.assertEqual(seen[1 + 954], [0] + SCRIPT)
        self.assertEqual([p for p in range(1024) if seen[1 + p] != [0] + [0] * 96], [954])

    def test_get_after_drop(self):
        seen = run([put(0, PLAIN_KEY, PLAIN_DATA, PLAIN_SALT), put(1, PLAIN_KEY, PLAIN_DATA, PLAIN_SALT),
                    drop(0, PLAIN_KEY, SCRIPT), get(0, PLAIN_KEY), get(1, PLAIN_KEY)])
        self.assertEqual(seen[3], [-2] + told(places_asked(64) + [[1, 513], [5] + SCRIPT[:16]]))
        self.assertEqual(seen[4][:65], [0] + PLAIN_DATA)

    def test_put_after_drop(self):
        seen = run([drop(0, PLAIN_KEY, SCRIPT), put(0, PLAIN_KEY, PLAIN_DATA, PLAIN_SALT), get(0, PLAIN_KEY)])
        self.assertEqual(seen[2][:65], [0] + PLAIN_DATA)

    def test_other_pages_stay(self):
        filled = run([fresh(6)] + all_pages())[1:]
        seen = run([fresh(6), drop(10, PLAIN_KEY, SCRIPT)] + all_pages())[2:]
        self.assertEqual([p for p in range(1024) if seen[p] != filled[p]], [583])
        self.assertEqual(seen[583], [0] + SCRIPT)

    def test_left_over_bytes_are_not_looked_at(self):
        plain = run([drop(10, PLAIN_KEY, SCRIPT)] + all_pages())
        for over in (1, 31):
            self.assertEqual(run([drop(10, PLAIN_KEY + [3] * over, SCRIPT)] + all_pages()), plain)
