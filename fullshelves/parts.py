"""Requests are taken apart, and the parts of answers written, in octets (the section on the interface)."""

from fullshelves.errors import Malformed

FORMAT = 1
SAFE = 2
FILLING = 3
DOOM = 4
ATTACK = 5
LEAST = 6
FEWEST = 7
PARTING = 8
ROUND = 9
FILL = 10
SELL = 11
UNDO = 12
LOOK = 13


class Reader:
    """A request, and the place up to which it was read."""

    def __init__(self, octets):
        self.octets = octets
        self.place = 0

    def take(self, count):
        """The next octets, so many of them."""
        end = self.place + count
        if end > len(self.octets):
            raise Malformed()
        piece = self.octets[self.place:end]
        self.place = end
        return piece

    def u8(self):
        """The next octet."""
        return self.take(1)[0]

    def u16(self):
        """The number of the next two octets."""
        pair = self.take(2)
        return pair[0] + 256 * pair[1]

    def part(self, kind):
        """The next part: a seat, a text in octets, or a row of numbers (a stock, or items)."""
        if kind == "seat":
            return self.u8()
        if kind == "text":
            return self.take(self.u16())
        return tuple(self.take(self.u8()))


def kinds_of(number):
    """The kinds of a call's parts, in order."""
    if number in (FORMAT, LEAST, FEWEST):
        return ["text"]
    if number in (SAFE, FILLING, DOOM, ATTACK):
        return ["text", "row"]
    if number == PARTING:
        return ["text", "text"]
    if number == ROUND:
        return ["seat", "text"]
    if number in (FILL, SELL):
        return ["seat", "row"]
    if number in (UNDO, LOOK):
        return ["seat"]
    raise Malformed()


def take_apart(request):
    """The number of a request's call, and the list of its parts."""
    reader = Reader(request)
    number = reader.u8()
    parts = []
    for kind in kinds_of(number):
        parts.append(reader.part(kind))
    if reader.place < len(request):
        raise Malformed()
    return (number, parts)


def write_flag(yes):
    """A flag."""
    if yes:
        return [1]
    return [0]


def write_u16(number):
    """A u16."""
    return [number % 256, number // 256]


def write_text(octets):
    """A text, of these octets."""
    return write_u16(len(octets)) + octets


def write_row(row):
    """A stock, or items."""
    return [len(row)] + list(row)


def write_rows(rows):
    """A list16 of stocks."""
    octets = write_u16(len(rows))
    for row in rows:
        octets.extend(write_row(row))
    return octets


def write_maybe_row(row):
    """Maybe a stock or items: None stands for nothing."""
    if row is None:
        return [0]
    return [1] + write_row(row)


def write_maybe_u8(number):
    """Maybe a u8: None stands for nothing."""
    if number is None:
        return [0]
    return [1, number]


def write_maybe_u16(number):
    """Maybe a u16: None stands for nothing."""
    if number is None:
        return [0]
    return [1] + write_u16(number)
