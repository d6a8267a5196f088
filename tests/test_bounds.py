"""What the document says of all calls: which numbers a body may have, and what a call leaves as it was."""

import contextlib
import io
import unittest
from unittest import mock

from known_bodies import KNOWN, NOT_BODIES, flat
from known_counts import COUNTED
from wholepoints.bodies import er_alike, er_corners, er_count, er_mirror, er_poly, er_sides, er_star, er_sums

SQUARE = flat(2, [(0, 0), (1, 0), (0, 1), (1, 1)])
FOR_ALL = [
    ("er_corners", er_corners),
    ("er_sides", lambda body: er_sides(1000000, body)),
    ("er_sides of most 0", lambda body: er_sides(0, body)),
]
UP_TO_SPACE = [
    ("er_count of t -3", lambda body: er_count(-3, body)),
    ("er_count of t 0", lambda body: er_count(0, body)),
    ("er_count of t 2", lambda body: er_count(2, body)),
    ("er_poly", er_poly),
    ("er_star", er_star),
    ("er_mirror", er_mirror),
    ("er_sums", er_sums),
    ("er_alike of a body and itself", lambda body: er_alike(body, body)),
    ("er_alike, as the first", lambda body: er_alike(body, SQUARE)),
    ("er_alike, as the second", lambda body: er_alike(SQUARE, body)),
]
CALLS = FOR_ALL + UP_TO_SPACE
BODIES = [flat(row[1], row[2]) for row in KNOWN + COUNTED]
# Each call and what it is asked: the calls up to space aren't asked four dimensions or more than 8 points.
ASKED = [(name, call, body) for body in BODIES for name, call in FOR_ALL]
ASKED += [(name, call, body) for body in BODIES if body[0] < 4 and body[1] < 9 for name, call in UP_TO_SPACE]
ASKED += [(name, call, body) for what, body in NOT_BODIES for name, call in CALLS]


def refuse(*told, **named):
    raise AssertionError("this is not to be done")


class Fixed(list):
    """A list that can't be changed, not for a while either."""

    append = extend = insert = pop = remove = clear = sort = reverse = refuse
    __setitem__ = __delitem__ = __iadd__ = __imul__ = refuse


class Bounds(unittest.TestCase):
    def test_every_number_of_every_point_is_held_to_its_bounds(self):
        for body in BODIES:
            for place in range(2, len(body)):
                for number in (-128, -5, 5, 127):
                    changed = body[:place] + [number] + body[place + 1:]
                    for name, call in CALLS:
                        self.assertEqual(call(changed), [-2], (name, changed))

    def test_the_bounds_themselves_are_allowed(self):
        self.assertEqual(er_corners([1, 2, -4, 4]), [3])
        self.assertEqual(er_corners([1, 12, -4, 4] + [0] * 10), [3])
        self.assertEqual(er_corners([4, 5] + [-4] * 4 + [4] + [-4] * 4 + [4] + [-4] * 4 + [4] + [-4] * 4 + [4]), [31])

    def test_what_is_handed_in_stays(self):
        for name, call, body in ASKED:
            handed = list(body)
            call(handed)
            self.assertEqual(handed, body, name)

    def test_what_is_handed_in_is_not_changed_for_a_while_either(self):
        for name, call, body in ASKED:
            self.assertEqual(call(Fixed(body)), call(body), name)

    def test_both_bodies_stay(self):
        plane = [body for body in BODIES if body[0] == 2 and body[1] < 9]
        for body in plane + [body for name, body in NOT_BODIES]:
            for other in (plane[0], SQUARE, body):
                first, second = list(body), list(other)
                er_alike(first, second)
                self.assertEqual((first, second), (body, other))
                self.assertEqual(er_alike(Fixed(body), Fixed(other)), er_alike(body, other))
                self.assertEqual(er_alike(Fixed(other), Fixed(body)), er_alike(other, body))

    def test_the_same_call_gives_the_same_answer(self):
        first = [call(body) for name, call, body in ASKED]
        again = [call(body) for name, call, body in reversed(ASKED)]
        self.assertEqual(first, again[::-1])

    def test_an_answer_is_not_kept(self):
        for name, call, body in ASKED:
            answer = call(body)
            kept = list(answer)
            answer.append(7)
            self.assertEqual(call(body), kept, name)

    def test_answers_are_lists_of_whole_numbers(self):
        for name, call, body in ASKED:
            answer = call(body)
            self.assertIs(type(answer), list, name)
            for number in answer:
                self.assertIs(type(number), int, name)

    def test_nothing_is_printed_read_or_imported(self):
        out = io.StringIO()
        with contextlib.redirect_stdout(out), contextlib.redirect_stderr(out):
            with mock.patch("builtins.open", refuse), mock.patch("builtins.input", refuse):
                with mock.patch("builtins.__import__", refuse):
                    for name, call, body in ASKED:
                        call(body)
        self.assertEqual(out.getvalue(), "")


if __name__ == "__main__":
    unittest.main()
