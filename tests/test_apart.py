"""Promise 14: a call answered by an error changes nothing; a call on one seat leaves all others as they are."""

import unittest

from helper import (
    ATTACK, DOOM, FEWEST, FILLING, FORMAT, LEAST, SAFE, begin, fill, look, of_stock, of_text, parting, sell, session,
    undo,
)

TEXT = "shelf tea 2\nshelf jam 1\ncustomers 2 of 1\nstocker 1 onto 1"
OTHER = "shelf oat 4\ncustomers 1 of 1\nstocker 1 onto 1"
LONG = " " * 201

# Seat 0 is at a visit, seat 1 open, seat 2 behind 30 steps, seat 3 low and open; seat 4 new, 5 to 7 empty.
SETUP = (
    [begin(seat, TEXT) for seat in (0, 1, 2, 3)] + [begin(4, OTHER)]
    + [fill(0, (0, 0)), sell(0, (1, 0)), fill(1, (0, 0))] + [fill(2, (0, 0)), sell(2, (0, 0))] * 15
    + [fill(3, (0, 0)), sell(3, (1, 1)), fill(3, (0, 0))]
)

REFUSED = [
    ([1, 1], []), ([1, 1], [0]), ([1, 1], undo(0) + [0]), ([1, 1], begin(0, OTHER)[:-1]), ([1, 1], [9, 0]),
    ([1, 2], begin(0, LONG)), ([1, 3, 1, 0], begin(0, "")), ([1, 3, 2, 0], begin(1, "shelf a 1\nx")),
    ([1, 7], begin(8, TEXT)), ([1, 7], fill(5, (0, 0))), ([1, 7], sell(6, (0, 0))), ([1, 7], undo(7)),
    ([1, 7], undo(8)), ([1, 7], look(200)), ([1, 7], fill(8, (0, 0))), ([1, 7], sell(9, (1, 0))),
    ([1, 5], fill(0, (0,))), ([1, 5], fill(1, (0, 10))), ([1, 5], sell(1, (0, 0, 0))), ([1, 5], sell(0, ())),
    ([1, 8], fill(1, (0, 0))), ([1, 9], fill(0, (1, 1))), ([1, 9], fill(4, (1,))), ([1, 10], fill(2, (0, 0))),
    ([1, 11], sell(0, (0, 0))), ([1, 11], sell(2, (0, 0))), ([1, 12], sell(1, (2, 0))), ([1, 13], sell(3, (0, 1))),
    ([1, 2], of_text(FORMAT, LONG)), ([1, 3, 1, 0], of_text(LEAST, "x")), ([1, 4], of_stock(SAFE, TEXT, (9, 9))),
    ([1, 6], parting(TEXT, OTHER)),
]

UNCHANGING = (
    [of_text(call, TEXT) for call in (FORMAT, LEAST, FEWEST)] + [parting(TEXT, TEXT)]
    + [of_stock(call, OTHER, (1,)) for call in (SAFE, FILLING, DOOM, ATTACK)] + [look(seat) for seat in range(5)]
)


def seen(seat):
    """Requests that show all of a seat: what is there now, and all that can be taken back."""
    return [look(seat)] + [undo(seat), look(seat)] * 31


def shown(requests, seat):
    """What is seen of a seat behind the setup and these requests."""
    return session(SETUP + requests + seen(seat))[len(SETUP) + len(requests):]


class Refusals(unittest.TestCase):
    def test_an_error_changes_nothing(self):
        before = {seat: shown([], seat) for seat in range(8)}
        for answer, request in REFUSED:
            self.assertEqual(answer, session(SETUP + [request])[-1], request)
            for seat in range(8):
                self.assertEqual(before[seat], shown([request], seat), (request, seat))

    def test_all_errors_at_once(self):
        requests = [request for answer, request in REFUSED]
        for seat in range(8):
            self.assertEqual(shown([], seat), shown(requests * 2, seat))

    def test_calls_on_shops_change_nothing(self):
        for seat in range(8):
            self.assertEqual(shown([], seat), shown(UNCHANGING * 3, seat))


class Seats(unittest.TestCase):
    def test_a_call_on_one_seat_leaves_all_others(self):
        before = {seat: shown([], seat) for seat in range(8)}
        for request in (
            begin(0, OTHER), begin(5, TEXT), begin(7, OTHER), fill(0, (1, 0)), sell(1, (1, 1)), sell(3, (1, 0)),
            fill(4, (0,)), undo(0), undo(1), undo(2), undo(3), undo(4),
        ):
            self.assertEqual(0, session(SETUP + [request])[-1][0])
            for seat in range(8):
                if seat != request[1]:
                    self.assertEqual(before[seat], shown([request], seat), (request, seat))
                elif request != undo(4):
                    self.assertNotEqual(before[seat], shown([request], seat), request)

    def test_the_same_shop_in_all_seats(self):
        requests = [begin(seat, TEXT) for seat in range(8)]
        for seat in range(8):
            requests += [fill(seat, (0, 0))] + [sell(seat, (seat % 2, seat // 4))]
        given = session(requests + [look(seat) for seat in range(8)])[len(requests):]
        self.assertEqual([[2 - seat % 2, 1 - seat // 4] for seat in range(8)], [answer[2:4] for answer in given])


if __name__ == "__main__":
    unittest.main()
