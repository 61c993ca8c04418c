"""What the tests share: requests written in octets, and a plain second way to the same answers.

The second way goes straight from sections 2 to 4 of the document: it follows courses visit by visit,
and shares nothing with the program. A shop is here a tuple (rooms, wanted, of_one, put, onto).
"""

import itertools

from fullshelves.session import answers

NAMES = ("tea", "jam", "oat")
FORMAT, SAFE, FILLING, DOOM, ATTACK, LEAST, FEWEST, PARTING, ROUND, FILL, SELL, UNDO, LOOK = range(1, 14)


# Requests.

def octets(text):
    return list(text.encode("latin-1"))


def u16(number):
    return [number % 256, number // 256]


def text_part(text):
    return u16(len(text)) + octets(text)


def row(numbers):
    return [len(numbers)] + list(numbers)


def of_text(call, text):
    return [call] + text_part(text)


def of_stock(call, text, stock):
    return [call] + text_part(text) + row(stock)


def parting(text, other):
    return [PARTING] + text_part(text) + text_part(other)


def begin(seat, text):
    return [ROUND, seat] + text_part(text)


def fill(seat, items):
    return [FILL, seat] + row(items)


def sell(seat, items):
    return [SELL, seat] + row(items)


def undo(seat):
    return [UNDO, seat]


def look(seat):
    return [LOOK, seat]


# Sessions.

def flat(requests):
    calls = []
    for request in requests:
        calls.extend([0, len(request)] + request)
    return calls


def apart(numbers):
    given = []
    while numbers:
        given.append(numbers[1:1 + numbers[0]])
        numbers = numbers[1 + numbers[0]:]
    return given


def session(requests):
    """The answers to these requests, made in one session."""
    given = apart(answers(flat(requests)))
    assert len(given) == len(requests), (len(given), len(requests))
    return given


def ask(request):
    return session([request])[0]


def ask_each(requests):
    """The answers to requests that hang on no others, in as few sessions as are allowed."""
    given = []
    batch = []
    size = 0
    for request in requests:
        if len(batch) == 300 or size + len(request) + 2 > 61000:
            given.extend(session(batch))
            batch, size = [], 0
        batch.append(request)
        size += len(request) + 2
    if batch:
        given.extend(session(batch))
    return given


# Answers.

def maybe_row(numbers):
    return [0] if numbers is None else [1] + row(numbers)


def maybe_u8(number):
    return [0] if number is None else [1, number]


def maybe_u16(number):
    return [0] if number is None else [1] + u16(number)


def read_text(answer):
    """The text of an answer that is nothing but a text."""
    assert answer[0] == 0 and answer[1] + 256 * answer[2] == len(answer) - 3, answer
    return "".join(map(chr, answer[3:]))


def read_maybe_row(answer):
    """The row, or None, of an answer that is nothing but maybe a row."""
    if answer == [0, 0]:
        return None
    assert answer[:2] == [0, 1] and answer[2] == len(answer) - 3, answer
    return tuple(answer[3:])


def read_maybe_u16(answer):
    if answer == [0, 0]:
        return None
    assert answer[:2] == [0, 1] and len(answer) == 4, answer
    return answer[2] + 256 * answer[3]


def read_rows(answer):
    """The rows of an answer that is nothing but a list16 of rows."""
    assert answer[0] == 0
    rows, rest = [], answer[3:]
    while rest:
        rows.append(tuple(rest[1:1 + rest[0]]))
        rest = rest[1 + rest[0]:]
    assert len(rows) == answer[1] + 256 * answer[2]
    return rows


def look_answer(stock, selling, well, hint):
    return [0] + row(stock) + [int(selling), int(well)] + maybe_row(hint)


# Shops, for the second way.

def text_of(shop):
    rooms, wanted, of_one, put, onto = shop
    lines = [f"shelf {name} {room}" for name, room in zip(NAMES, rooms)]
    return "\n".join(lines + [f"customers {wanted} of {of_one}", f"stocker {put} onto {onto}"])


def small_shops():
    """All shops of one shelf, and all of two shelves with room for at most 2 items."""
    shelves = [(1,), (2,), (3,), (4,), (1, 1), (1, 2), (2, 1), (2, 2)]
    for rooms in shelves:
        for wanted in range(1, 5):
            for of_one in range(1, wanted + 1):
                for put in range(1, 10):
                    for onto in range(1, len(rooms) + 1):
                        yield (rooms, wanted, of_one, put, onto)


def larger_shops():
    """Some shops with more stocks, of all kinds of outcomes."""
    return [
        ((4, 4), 2, 1, 1, 1),
        ((4, 4), 2, 1, 2, 1),
        ((3, 4), 3, 2, 3, 2),
        ((4, 3), 2, 2, 2, 1),
        ((4, 2), 1, 1, 1, 1),
        ((1, 1, 1), 1, 1, 1, 1),
        ((1, 1, 1), 2, 1, 2, 2),
        ((2, 2, 2), 1, 1, 1, 1),
        ((2, 1, 2), 2, 1, 2, 2),
        ((2, 2, 2), 2, 1, 2, 1),
        ((2, 2, 2), 2, 2, 3, 2),
        ((3, 2, 1), 2, 1, 3, 3),
        ((3, 3, 2), 1, 1, 1, 1),
        ((3, 3, 3), 2, 1, 2, 2),
        ((3, 3, 3), 1, 1, 2, 1),
    ]


def stocks(shop):
    return list(itertools.product(*[range(room + 1) for room in shop[0]]))


def is_filling(shop, stock, items):
    rooms, _, _, put, onto = shop
    fits = all(there + more <= room for room, there, more in zip(rooms, stock, items))
    return fits and sum(items) <= put and sum(1 for more in items if more > 0) <= onto


def is_taking(shop, items):
    return max(items) <= shop[2] and sum(items) <= shop[1]


def all_items(shop):
    """In the order of section 3.3."""
    return list(itertools.product(range(10), repeat=len(shop[0])))


def items_up_to(shop, most):
    return list(itertools.product(range(most + 1), repeat=len(shop[0])))


def fillings(shop, stock):
    found = [items for items in items_up_to(shop, 4) if is_filling(shop, stock, items)]
    return sorted(found, key=lambda items: (sum(items), items))


def takings(shop):
    return [items for items in items_up_to(shop, 4) if is_taking(shop, items)]


def is_there(stock, items):
    return all(gone <= there for there, gone in zip(stock, items))


def put_on(stock, items):
    return tuple(there + more for there, more in zip(stock, items))


def gone(stock, items):
    return tuple(there - less for there, less in zip(stock, items))


def is_below(stock, other):
    return all(less <= more for less, more in zip(stock, other))


class Courses:
    """All courses of a shop, followed visit by visit (section 3.2)."""

    def __init__(self, shop):
        self.shop = shop
        self.takings = takings(shop)
        self.known = {}
        self.ways = {stock: [put_on(stock, items) for items in fillings(shop, stock)] for stock in stocks(shop)}

    def forced(self, stock, visits):
        """Whether customers can force it within so many visits."""
        if visits == 0:
            return False
        if (stock, visits) not in self.known:
            self.known[stock, visits] = all(self.lost(filled, visits) for filled in self.ways[stock])
        return self.known[stock, visits]

    def lost(self, filled, visits):
        """Whether they can force it from a stock behind the first of so many visits' fillings."""
        for taking in self.takings:
            if not is_there(filled, taking) or self.forced(gone(filled, taking), visits - 1):
                return True
        return False

    def doom(self, stock):
        """The least number of visits within which it can be forced; None if there is none.

        What can be forced at all can be within as many visits as there are stocks: of each number
        of visits up to the doom there is a stock with this doom.
        """
        for visits in range(1, len(stocks(self.shop)) + 1):
            if self.forced(stock, visits):
                return visits
        return None

    def keeps(self, filled):
        """Whether each taking is there behind a filling, and leaves a stock that can be kept."""
        return all(
            is_there(filled, taking) and self.doom(gone(filled, taking)) is None for taking in self.takings
        )

    def filling(self, stock):
        for items in fillings(self.shop, stock):
            if self.keeps(put_on(stock, items)):
                return items
        return None

    def attack(self, filled):
        for taking in self.takings:
            if not is_there(filled, taking):
                return taking
        found = [(self.doom(gone(filled, taking)), taking) for taking in self.takings]
        found = [pair for pair in found if pair[0] is not None]
        return min(found)[1] if found else None

    def least(self):
        kept = [stock for stock in stocks(self.shop) if self.doom(stock) is None]
        return [stock for stock in kept if not any(other != stock and is_below(other, stock) for other in kept)]

    def keeps_full(self):
        return self.doom(tuple(self.shop[0])) is None


def fewest(shop):
    rooms, wanted, of_one, put, onto = shop
    puts = [n for n in range(1, 10) if Courses((rooms, wanted, of_one, n, onto)).keeps_full()]
    ontos = [n for n in range(1, len(rooms) + 1) if Courses((rooms, wanted, of_one, put, n)).keeps_full()]
    return (puts[0] if puts else None, ontos[0] if ontos else None)


class Seats:
    """A second way to rounds (section 4.2) and to the order of their errors."""

    def __init__(self):
        self.rounds = {}
        self.courses = {}

    def begin(self, seat, shop):
        if seat > 7:
            return [1, 7]
        self.rounds[seat] = (shop, [tuple(shop[0])])
        return [0]

    def fill(self, seat, items):
        if seat not in self.rounds:
            return [1, 7]
        shop, path = self.rounds[seat]
        if len(items) != len(shop[0]) or any(number > 9 for number in items):
            return [1, 5]
        if len(path) % 2 == 0:
            return [1, 8]
        if not is_filling(shop, path[-1], items):
            return [1, 9]
        return self.go(seat, put_on(path[-1], items))

    def sell(self, seat, items):
        if seat not in self.rounds:
            return [1, 7]
        shop, path = self.rounds[seat]
        if len(items) != len(shop[0]) or any(number > 9 for number in items):
            return [1, 5]
        if len(path) % 2 == 1:
            return [1, 11]
        if not is_taking(shop, items):
            return [1, 12]
        if not is_there(path[-1], items):
            return [1, 13]
        return self.go(seat, gone(path[-1], items))

    def go(self, seat, stock):
        path = self.rounds[seat][1]
        if len(path) == 31:
            return [1, 10]
        path.append(stock)
        return [0]

    def undo(self, seat):
        if seat not in self.rounds:
            return [1, 7]
        path = self.rounds[seat][1]
        if len(path) == 1:
            return [0, 0]
        path.pop()
        return [0, 1]

    def look(self, seat):
        if seat not in self.rounds:
            return [1, 7]
        shop, path = self.rounds[seat]
        courses = self.courses.setdefault(shop, Courses(shop))
        if len(path) % 2 == 0:
            return look_answer(path[-1], True, courses.keeps(path[-1]), None)
        return look_answer(path[-1], False, courses.doom(path[-1]) is None, courses.filling(path[-1]))
