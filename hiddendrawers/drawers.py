"""Drawers: their keys and places, and what is put in, got from and dropped from them."""

PAGE_COUNT = 1024
PAGE_BYTES = 96
KEY_BYTES = 32
KEYS_AT_MOST = 4
SLOT_COUNT = 64
SALT_BYTES = 16
MARK_BYTES = 16
PAD_BYTES = 80


def keys_of(row):
    return [row[k * KEY_BYTES:(k + 1) * KEY_BYTES] for k in range(len(row) // KEY_BYTES)]


def place_of(key, j):
    start = key[0] + 256 * (key[1] % 4)
    # An odd step walks through all pages before it comes back to the first.
    step = 2 * key[2] + 1
    return (start + step * j) % PAGE_COUNT


def pad_of(key, salt):
    return [(3 * key[i % KEY_BYTES] + 5 * salt[i % SALT_BYTES] + i) % 256 for i in range(PAD_BYTES)]


# The same once more shows the row again, so it serves to hide and to look.
def under_pad(row, pad):
    return [byte ^ over for byte, over in zip(row, pad)]


# All that a call asks for goes through here, so that nothing is asked without being told.
class Asking:
    def __init__(self, pages, script):
        self.pages = pages
        self.script = script
        self.things = []

    def read(self, place):
        self.things.append([1, place])
        return self.pages.show(place)

    def write(self, place, content):
        self.things.append([2, place] + content)
        self.pages.store(place, content)

    def chance(self, size):
        self.things.append([3, size])
        return self.script[:size]

    def place(self, key, j):
        self.things.append([4, j])
        return place_of(key, j)

    def pad(self, key, salt):
        self.things.append([5] + salt)
        return pad_of(key, salt)

    def account(self):
        told = [len(self.things)]
        for thing in self.things:
            told.extend(thing)
        return told


def drawer_places(asking, key, taken):
    places = []
    j = 0
    # A key's places are all pages in some order and at most 192 are taken, so this ends.
    while len(places) < SLOT_COUNT:
        place = asking.place(key, j)
        if place not in taken:
            places.append(place)
        j = j + 1
    return places


def find_places(asking, keys):
    taken = {}
    places = []
    for key in keys:
        # All 64 are sought whatever the slot, so that what's asked doesn't tell it.
        places = drawer_places(asking, key, taken)
        for place in places:
            taken[place] = True
    return places


def is_refused(slot, keys):
    return len(keys) < 1 or len(keys) > KEYS_AT_MOST or slot >= SLOT_COUNT


def put_data(asking, slot, keys, data):
    if is_refused(slot, keys):
        return [-22]
    place = find_places(asking, keys)[slot]
    salt = asking.chance(SALT_BYTES)
    pad = asking.pad(keys[-1], salt)
    asking.write(place, salt + under_pad([0] * MARK_BYTES + data, pad))
    return [0]


def get_data(asking, slot, keys):
    if is_refused(slot, keys):
        return [-22]
    place = find_places(asking, keys)[slot]
    content = asking.read(place)
    pad = asking.pad(keys[-1], content[:SALT_BYTES])
    shown = under_pad(content[SALT_BYTES:], pad)
    if any(shown[:MARK_BYTES]):
        return [-2]
    return [0] + shown[MARK_BYTES:]


def drop_data(asking, slot, keys):
    if is_refused(slot, keys):
        return [-22]
    place = find_places(asking, keys)[slot]
    asking.write(place, asking.chance(PAGE_BYTES))
    return [0]
