"""The refusals: an error class for each number of an error that a request can be answered by."""


class Refusal(Exception):
    """A request is answered by an error: its number, and the octets that stand behind it."""

    def __init__(self, number, behind):
        self.number = number
        self.behind = behind


class Malformed(Refusal):
    """The request cannot be taken apart."""

    def __init__(self):
        Refusal.__init__(self, 1, [])


class TextTooLong(Refusal):
    """The text has more than 200 octets."""

    def __init__(self):
        Refusal.__init__(self, 2, [])


class InvalidLine(Refusal):
    """A line of the text is invalid; its number follows, the lower octet first."""

    def __init__(self, line):
        Refusal.__init__(self, 3, [line % 256, line // 256])


class NoStock(Refusal):
    """The stock is none of the shop."""

    def __init__(self):
        Refusal.__init__(self, 4, [])


class NoItems(Refusal):
    """There are not as many numbers as shelves, or one of them is above 9."""

    def __init__(self):
        Refusal.__init__(self, 5, [])


class OtherShelves(Refusal):
    """The other shop has other shelves."""

    def __init__(self):
        Refusal.__init__(self, 6, [])


class NoRound(Refusal):
    """There is no such seat, or no round in it."""

    def __init__(self):
        Refusal.__init__(self, 7, [])


class ShopIsOpen(Refusal):
    """Nothing can be put on: it is not the time of a visit."""

    def __init__(self):
        Refusal.__init__(self, 8, [])


class NoFilling(Refusal):
    """The items are no filling of the present stock."""

    def __init__(self):
        Refusal.__init__(self, 9, [])


class StepsSpent(Refusal):
    """There are 30 steps that were made and not taken back."""

    def __init__(self):
        Refusal.__init__(self, 10, [])


class ShopIsClosed(Refusal):
    """Nothing can be taken: it is the time of a visit."""

    def __init__(self):
        Refusal.__init__(self, 11, [])


class NoTaking(Refusal):
    """Customers do not take such items."""

    def __init__(self):
        Refusal.__init__(self, 12, [])


class ShelfFoundEmpty(Refusal):
    """More is taken than is there."""

    def __init__(self):
        Refusal.__init__(self, 13, [])
