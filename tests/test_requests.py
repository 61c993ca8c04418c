"""Promise 12: each request that is not malformed is taken apart in exactly one way; error 1 comes first."""

import unittest

from helper import (
    ATTACK, DOOM, FEWEST, FILLING, FORMAT, LEAST, LOOK, SAFE, ask, ask_each, begin, fill, look, look_answer, octets,
    of_stock, of_text, parting, row, sell, session, text_part, undo,
)

TEXT = "shelf tea 2\nshelf jam 1\ncustomers 2 of 1\nstocker 2 onto 2"


def well_formed():
    """A request of each call."""
    return (
        [of_text(call, TEXT) for call in (FORMAT, LEAST, FEWEST)]
        + [of_stock(call, TEXT, (1, 1)) for call in (SAFE, FILLING, DOOM, ATTACK)]
        + [parting(TEXT, TEXT), begin(3, TEXT), fill(3, (0, 0)), sell(3, (1, 1)), undo(3), look(3)]
    )


class Malformed(unittest.TestCase):
    def test_each_call_that_is_well_formed_succeeds(self):
        self.assertEqual(list(range(1, 14)), sorted(request[0] for request in well_formed()))
        given = session(well_formed())
        self.assertEqual([0] * 13, [answer[0] for answer in given])

    def test_no_octets(self):
        self.assertEqual([1, 1], ask([]))

    def test_numbers_that_are_not_listed(self):
        rest = text_part(TEXT) + row((1, 1))
        for number in [0] + list(range(14, 256)):
            self.assertEqual([[1, 1]] * 3, session([[number], [number, 0], [number] + rest]))

    def test_cut_off_at_each_octet(self):
        for request in well_formed():
            cuts = [request[:count] for count in range(len(request))]
            for cut, answer in zip(cuts, ask_each([begin(3, TEXT)] + cuts)[1:]):
                self.assertEqual([1, 1], answer, cut)

    def test_an_octet_left_behind(self):
        for request in well_formed():
            for left in ([0], [1], [255], [0, 0]):
                self.assertEqual([1, 1], session([begin(3, TEXT), request + left])[1], request)

    def test_lengths_told_wrong(self):
        for number in (len(TEXT) - 1, len(TEXT) + 1, len(TEXT) + 256, 0, 65535):
            self.assertEqual([1, 1], ask([FORMAT, number % 256, number // 256] + octets(TEXT)))
        for count in (0, 1, 3, 255):
            self.assertEqual([1, 1], ask([SAFE] + text_part(TEXT) + [count, 1, 1]))
            self.assertEqual([1, 1], session([begin(0, TEXT), [10, 0, count, 1, 1]])[1])

    def test_malformed_ahead_of_anything_else(self):
        long = " " * 201
        for request in (
            of_text(FORMAT, long), of_text(LEAST, "x"), of_stock(SAFE, TEXT, ()), of_stock(DOOM, long, (9, 9)),
            parting(long, "x"), parting(TEXT, TEXT.replace("tea", "tee")), begin(8, TEXT), begin(0, ""),
            fill(200, (0, 0)), sell(8, ()), sell(0, (99,)), undo(8), look(255), look(0),
        ):
            self.assertEqual([1, 1], ask(request + [0]))
            self.assertEqual([1, 1], ask(request[:-1]))
            self.assertEqual(1, ask(request)[0])
            self.assertNotEqual([1, 1], ask(request))

    def test_malformed_requests_change_nothing(self):
        shown = look_answer((2, 1), True, True, None)
        bad = [[], [0], [14], [9], [9, 3], begin(3, TEXT) + [0], begin(3, TEXT)[:-1], sell(3, (1, 1)) + [0],
               sell(3, (1, 1))[:-1], undo(3) + [3], [12], look(3) + [0]]
        for request in bad:
            given = session([begin(3, TEXT), fill(3, (0, 0)), request, look(3), undo(3), undo(3)])
            self.assertEqual([[1, 1], shown, [0, 1], [0, 0]], given[2:])


class Parts(unittest.TestCase):
    def test_the_lower_octet_of_a_length_comes_first(self):
        self.assertEqual([1, 2], ask([FORMAT, 44, 1] + [32] * 300))
        self.assertEqual([1, 1], ask([FORMAT, 1, 44] + [32] * 300))

    def test_the_first_text_is_the_first(self):
        self.assertEqual([1, 3, 1, 0], ask(parting("x\n\n", "\n\n")))
        self.assertEqual([1, 3, 3, 0], ask(parting("\n\n", "x\n\n")))
        self.assertEqual([1, 3, 1, 0], ask(parting("", "\n\n")))

    def test_any_octets_in_a_text(self):
        text = "".join(chr(octet) for octet in range(200))
        self.assertEqual([1, 3, 1, 0], ask(of_text(FORMAT, text)))
        self.assertEqual([1, 3, 1, 0], ask(of_text(FORMAT, "\xff" * 200)))

    def test_empty_parts(self):
        self.assertEqual([1, 3, 1, 0], ask([FORMAT, 0, 0]))
        self.assertEqual([1, 3, 1, 0], ask([SAFE, 0, 0, 0]))
        self.assertEqual([1, 3, 1, 0], ask([8, 0, 0, 0, 0]))
        self.assertEqual([1, 4], ask([SAFE] + text_part(TEXT) + [0]))
        self.assertEqual([[0], [1, 5]], session([begin(0, TEXT), [10, 0, 0]]))

    def test_seats(self):
        seats = list(range(256))
        self.assertEqual([[0]] * 8 + [[1, 7]] * 248, ask_each([begin(seat, TEXT) for seat in seats]))
        requests = [begin(seat, TEXT) for seat in range(8)] + [[LOOK, seat] for seat in seats]
        shown = look_answer((2, 1), False, True, (0, 0))
        self.assertEqual([shown] * 8 + [[1, 7]] * 248, session(requests)[8:])


if __name__ == "__main__":
    unittest.main()
