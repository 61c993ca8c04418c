"""Shops, and their canonical texts (section 2.1)."""

SPACE = 32
NEWLINE = 10
ZERO = 48

MOST_PUT = 9


class Shop:
    """A shop: the names (octets) and rooms of its shelves, and what its last two lines tell."""

    def __init__(self, names, rooms, wanted, wanted_of_one, put, onto):
        self.names = names
        self.rooms = rooms
        self.wanted = wanted
        self.wanted_of_one = wanted_of_one
        self.put = put
        self.onto = onto


def resized(shop, put, onto):
    """The same shop, but for what its stocker puts on."""
    return Shop(shop.names, shop.rooms, shop.wanted, shop.wanted_of_one, put, onto)


def octets_of(word):
    """The octets of a word of ASCII signs."""
    return [ord(sign) for sign in word]


def canonical_text(shop):
    """The canonical text of a shop, in octets."""
    lines = []
    for name, room in zip(shop.names, shop.rooms):
        lines.append([octets_of("shelf"), name, [ZERO + room]])
    lines.append([octets_of("customers"), [ZERO + shop.wanted], octets_of("of"), [ZERO + shop.wanted_of_one]])
    lines.append([octets_of("stocker"), [ZERO + shop.put], octets_of("onto"), [ZERO + shop.onto]])
    return joined([joined(words, SPACE) for words in lines], NEWLINE)


def joined(pieces, divider):
    """The octets of all pieces, with a divider between any two."""
    octets = []
    for place, piece in enumerate(pieces):
        if place > 0:
            octets.append(divider)
        octets.extend(piece)
    return octets
