"""Sessions: requests answered one after another, with eight seats for rounds (section 4)."""

from fullshelves.errors import NoRound, NoStock, OtherShelves, Refusal
from fullshelves.keeping import dooms, fewest_onto, fewest_put, first_attack, first_filling, first_parting, least_stocks
from fullshelves.parts import ATTACK, DOOM, FEWEST, FILL, FILLING, FORMAT, LEAST, LOOK, PARTING, ROUND, SAFE, SELL
from fullshelves.parts import UNDO, take_apart, write_flag, write_maybe_row, write_maybe_u8, write_maybe_u16
from fullshelves.parts import write_row, write_rows, write_text
from fullshelves.reading import read_shop
from fullshelves.rounds import Round
from fullshelves.shop import canonical_text
from fullshelves.stocks import stocks_of

SEATS = 8


def answers(calls):
    """The answers to a list of calls, which is one session (see the interface)."""
    session = Session()
    given = []
    place = 0
    while place < len(calls):
        end = place + 2 + calls[place + 1]
        answer = session.answer(calls[place + 2:end])
        given.append(len(answer))
        given.extend(answer)
        place = end
    return given


class Session:
    """What goes on from one request to the next: the round in each seat, or None."""

    def __init__(self):
        self.seats = [None for seat in range(SEATS)]

    def answer(self, request):
        """The octets that a request is answered by."""
        try:
            octets = self.call(request)
        except Refusal as refusal:
            return [1, refusal.number] + refusal.behind
        return [0] + octets

    def call(self, request):
        """What the call of a request answers, in octets."""
        number, parts = take_apart(request)
        if number == PARTING:
            return answer_parting(parts[0], parts[1])
        if number in (FORMAT, LEAST, FEWEST):
            return answer_of_shop(number, read_shop(parts[0]))
        if number in (SAFE, FILLING, DOOM, ATTACK):
            return answer_of_stock(number, read_shop(parts[0]), parts[1])
        if parts[0] >= SEATS:
            raise NoRound()
        if number == ROUND:
            self.seats[parts[0]] = Round(read_shop(parts[1]))
            return []
        if self.seats[parts[0]] is None:
            raise NoRound()
        return answer_of_round(number, self.seats[parts[0]], parts)


def answer_of_shop(number, shop):
    """What format, least and fewest answer."""
    if number == FORMAT:
        return write_text(canonical_text(shop))
    if number == LEAST:
        return write_rows(least_stocks(shop, dooms(shop)))
    return write_maybe_u8(fewest_put(shop)) + write_maybe_u8(fewest_onto(shop))


def answer_of_stock(number, shop, stock):
    """What safe, filling, doom and attack answer."""
    if stock not in stocks_of(shop):
        raise NoStock()
    doomed = dooms(shop)
    if number == SAFE:
        return write_flag(stock not in doomed)
    if number == FILLING:
        return write_maybe_row(first_filling(shop, doomed, stock))
    if number == DOOM:
        return write_maybe_u16(doomed.get(stock))
    return write_maybe_row(first_attack(shop, doomed, stock))


def answer_parting(text, other_text):
    """What parting answers."""
    shop = read_shop(text)
    other = read_shop(other_text)
    if shop.names != other.names or shop.rooms != other.rooms:
        raise OtherShelves()
    return write_maybe_row(first_parting(shop, other))


def answer_of_round(number, going, parts):
    """What the calls on a round answer that is going on."""
    if number == LOOK:
        well, hint = going.outlook()
        return write_row(going.stock) + write_flag(going.selling) + write_flag(well) + write_maybe_row(hint)
    if number == UNDO:
        return write_flag(going.undo())
    if number == FILL:
        going.fill(parts[1])
    elif number == SELL:
        going.sell(parts[1])
    return []
