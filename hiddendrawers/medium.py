"""The medium's pages, and the calls on them, answered one behind another."""

from hiddendrawers.drawers import PAGE_BYTES, PAGE_COUNT, Asking, drop_data, get_data, keys_of, put_data

FRESH = 0
PUT = 1
GET = 2
DROP = 3


class Pages:
    def __init__(self):
        self.filling = None
        self.written = {}

    def fill(self, seed):
        # The seed tells every page, so a page is made when it's looked at:
        # a list may hold thousands of calls of fresh, and few of their pages are seen.
        self.filling = seed
        self.written = {}

    def store(self, place, content):
        self.written[place] = list(content)

    def show(self, place):
        if place in self.written:
            return list(self.written[place])
        if self.filling is None:
            return [0] * PAGE_BYTES
        return [(self.filling + 7 * place + 13 * i) % 256 for i in range(PAGE_BYTES)]


class Reader:
    def __init__(self, numbers):
        self.numbers = numbers
        self.at = 0

    def has_more(self):
        return self.at < len(self.numbers)

    def number(self):
        value = self.numbers[self.at]
        self.at = self.at + 1
        return value

    def row(self):
        size = self.number()
        start = self.at
        self.at = start + size
        return self.numbers[start:self.at]


def drawer_answer(call, reader, pages):
    slot = reader.number()
    keys = keys_of(reader.row())
    if call == PUT:
        data = reader.row()
        asking = Asking(pages, reader.row())
        first = put_data(asking, slot, keys, data)
    elif call == GET:
        asking = Asking(pages, [])
        first = get_data(asking, slot, keys)
    else:
        asking = Asking(pages, reader.row())
        first = drop_data(asking, slot, keys)
    return first + asking.account()


def next_answer(reader, pages):
    call = reader.number()
    if call == FRESH:
        pages.fill(reader.number())
        return [0]
    if call == PUT or call == GET or call == DROP:
        return drawer_answer(call, reader, pages)
    return [0] + pages.show(reader.number() % PAGE_COUNT)


def answers(calls):
    pages = Pages()
    reader = Reader(calls)
    told = []
    while reader.has_more():
        answer = next_answer(reader, pages)
        told.append(len(answer))
        told.extend(answer)
    return told
