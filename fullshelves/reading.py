"""The texts of shops are read: lines, words, digits, and the line at fault (section 2.1)."""

from fullshelves.errors import InvalidLine, TextTooLong
from fullshelves.shop import MOST_PUT, NEWLINE, SPACE, ZERO, Shop, octets_of

MOST_OCTETS = 200
MOST_SHELVES = 3
MOST_ROOM = 4
MOST_WANTED = 4
MOST_LETTERS = 8
FIRST_LETTER = 97
LAST_LETTER = 122


class Draft:
    """What was read of a shop so far: None stands for a line that has not come yet."""

    def __init__(self):
        self.names = []
        self.rooms = []
        self.customers = None
        self.stocker = None


def read_shop(text):
    """The shop of a text; a refusal if it has none."""
    if len(text) > MOST_OCTETS:
        raise TextTooLong()
    lines = divided(text, NEWLINE)
    draft = Draft()
    for number, line in enumerate(lines, start=1):
        words = words_of(line)
        if len(words) > 0 and not read_line(draft, words):
            raise InvalidLine(number)
    if draft.stocker is None:
        raise InvalidLine(len(lines))
    wanted, wanted_of_one = draft.customers
    put, onto = draft.stocker
    return Shop(draft.names, draft.rooms, wanted, wanted_of_one, put, onto)


def divided(octets, divider):
    """The pieces between the dividers, empty ones too: one more than there are dividers."""
    pieces = []
    piece = []
    for octet in octets:
        if octet == divider:
            pieces.append(piece)
            piece = []
        else:
            piece.append(octet)
    pieces.append(piece)
    return pieces


def words_of(line):
    """The words of a line."""
    return [piece for piece in divided(line, SPACE) if len(piece) > 0]


def digit_of(word, most):
    """The number from 1 to most that is written as this one digit; 0 if it is none."""
    if len(word) == 1 and ZERO < word[0] <= ZERO + most:
        return word[0] - ZERO
    return 0


def is_name(word):
    """Whether a shelf may be called so."""
    letters = [octet for octet in word if FIRST_LETTER <= octet <= LAST_LETTER]
    return len(letters) == len(word) and 1 <= len(word) <= MOST_LETTERS


def read_line(draft, words):
    """Add a line with these words to what was read; answer whether it can stand there."""
    if words[0] == octets_of("shelf"):
        return read_shelf(draft, words)
    if words[0] == octets_of("customers"):
        return read_customers(draft, words)
    if words[0] == octets_of("stocker"):
        return read_stocker(draft, words)
    return False


def read_shelf(draft, words):
    """As read_line, for a line `shelf NAME K`."""
    if draft.customers is not None or len(draft.names) == MOST_SHELVES:
        return False
    if len(words) != 3 or not is_name(words[1]) or words[1] in draft.names:
        return False
    room = digit_of(words[2], MOST_ROOM)
    if room == 0:
        return False
    draft.names.append(words[1])
    draft.rooms.append(room)
    return True


def read_customers(draft, words):
    """As read_line, for a line `customers D of E`."""
    if draft.customers is not None or len(draft.names) == 0:
        return False
    if len(words) != 4 or words[2] != octets_of("of"):
        return False
    wanted = digit_of(words[1], MOST_WANTED)
    wanted_of_one = digit_of(words[3], wanted)
    if wanted_of_one == 0:
        return False
    draft.customers = (wanted, wanted_of_one)
    return True


def read_stocker(draft, words):
    """As read_line, for a line `stocker R onto M`."""
    if draft.customers is None or draft.stocker is not None:
        return False
    if len(words) != 4 or words[2] != octets_of("onto"):
        return False
    put = digit_of(words[1], MOST_PUT)
    onto = digit_of(words[3], len(draft.names))
    if put == 0 or onto == 0:
        return False
    draft.stocker = (put, onto)
    return True
