"""Points 1, 2, 9 and 11: ordered, which tells things by their numbers."""

import inspect
import unittest

from bucketfall import order
from bucketfall.errors import NoBase, NoNumber
from bucketfall.order import ordered
from reckoning import Numbers

BASES = range(2, 17)
NO_BASES = (1, 17, 0, -1, -2, 18, 36, 10 ** 250, -(10 ** 250))
LEAST_LONG = 10 ** 249
MOST_LONG = 10 ** 250 - 1
EVERY_SIGN = "".join(chr(code) for code in range(ord(" "), ord("~") + 1) if code != ord("%"))


def by_number(things):
    """Python's own sorting leaves things of one number in the order in which they stood."""
    return sorted(things, key=lambda thing: thing[0])


class Interface(unittest.TestCase):
    def test_name_and_arguments(self):
        self.assertEqual(list(inspect.signature(ordered).parameters), ["things", "base"])
        self.assertEqual(ordered.__module__, "bucketfall.order")
        self.assertIs(order.ordered, ordered)

    def test_kinds_of_values(self):
        told = ordered([(2, "b"), (1, "a")], 10)
        self.assertIs(told.__class__, list)
        for thing in told:
            self.assertIs(thing.__class__, tuple)
            self.assertEqual([value.__class__ for value in thing], [int, str])


class Ordered(unittest.TestCase):
    def holds(self, things):
        before = list(things)
        for base in BASES:
            with self.subTest(things=things[:5], base=base):
                self.assertEqual(ordered(things, base), by_number(before))
                self.assertEqual(things, before)

    def test_the_empty_list(self):
        for base in BASES:
            things = []
            told = ordered(things, base)
            self.assertEqual(told, [])
            self.assertIsNot(told, things)

    def test_one_thing(self):
        for number in (0, 1, 7, 16, LEAST_LONG, MOST_LONG):
            self.holds([(number, "one")])

    def test_by_hand(self):
        self.assertEqual(ordered([(30, "c"), (4, "a"), (12, "b")], 10), [(4, "a"), (12, "b"), (30, "c")])
        self.assertEqual(ordered([(5, "x"), (0, ""), (5, "a")], 2), [(0, ""), (5, "x"), (5, "a")])

    def test_a_list_in_order_and_one_backwards(self):
        things = [(number, str(number)) for number in range(0, 300, 3)]
        self.holds(things)
        self.holds(things[::-1])

    def test_one_number_in_the_order_in_which_they_stood(self):
        self.holds([(5, "z"), (5, "a"), (5, "m"), (5, "")])
        self.holds([(5, "z"), (0, "q"), (5, "a"), (9, "k"), (0, "b"), (5, "m"), (9, "a"), (0, "a")])
        self.holds([(number % 7, str(-number)) for number in range(100)])

    def test_one_number_and_one_name(self):
        self.holds([(5, "a"), (5, "a"), (3, "a"), (5, "a"), (3, "b"), (3, "a")])

    def test_several_of_one_name(self):
        self.holds([(number, "same") for number in (9, 4, 25, 0, 1, 16)])

    def test_names_of_none_to_twenty_signs(self):
        names = ["", " ", "  ", "~", EVERY_SIGN[:20], EVERY_SIGN[20:40], EVERY_SIGN[-20:], "a" * 20]
        names += list(EVERY_SIGN)
        self.holds([(3, name) for name in names[:100]])
        self.holds([(100 - at, name) for at, name in enumerate(names[:100])])

    def test_powers_of_the_base_and_one_less(self):
        for base in BASES:
            things = []
            for exponent in range(1, 50):
                things += [(base ** exponent, "power"), (base ** exponent - 1, "one less")]
            self.assertEqual(ordered(things[::-1], base), by_number(things[::-1]))

    def test_numbers_of_250_figures(self):
        numbers = Numbers(1)
        things = [(MOST_LONG, "a"), (LEAST_LONG, "b"), (0, "c"), (MOST_LONG - 1, "d"), (LEAST_LONG + 1, "e")]
        things += [(LEAST_LONG + numbers.below(9 * LEAST_LONG), str(at)) for at in range(25)]
        things += [(MOST_LONG, "again"), (LEAST_LONG, "again")]
        self.holds(things)

    def test_a_hundred_things(self):
        for limit in (1, 2, 5, 60, 10 ** 6, 10 ** 40):
            numbers = Numbers(limit)
            self.holds([(numbers.below(limit), "n" + str(at)) for at in range(100)])

    def test_beyond_the_limits_is_no_error(self):
        self.holds([(number, "n" * 25) for number in (10 ** 300, 3, 10 ** 300 - 1)])
        self.holds([(130 - at, str(at)) for at in range(130)])


class Handed(unittest.TestCase):
    def test_the_list_that_is_told_is_a_new_one(self):
        for things in ([], [(1, "a")], [(1, "a"), (2, "b")], [(2, "b"), (1, "a")], [(1, "b"), (1, "a")]):
            with self.subTest(things=things):
                before = list(things)
                told = ordered(things, 10)
                self.assertIsNot(told, things)
                told.append((99, "more"))
                told[0] = (98, "other")
                self.assertEqual(things, before)
                told.clear()
                self.assertEqual(things, before)
                self.assertEqual(ordered(things, 10), by_number(before))

    def test_each_call_tells_a_list_of_its_own(self):
        things = [(2, "b"), (1, "a")]
        one, other = ordered(things, 10), ordered(things, 10)
        one.clear()
        self.assertEqual(other, [(1, "a"), (2, "b")])

    def test_the_tuples_told_are_those_handed_in(self):
        # Equal tuples that are not one object, so that it can be seen which is told first.
        things = [tuple([number, "same"]) for number in (5, 3, 5, 3, 5)]
        told = ordered(things, 10)
        self.assertEqual([id(thing) for thing in told], [id(things[at]) for at in (1, 3, 0, 2, 4)])

    def test_what_is_told_stays_when_the_list_handed_in_changes(self):
        things = [(2, "b"), (1, "a")]
        told = ordered(things, 10)
        things.clear()
        self.assertEqual(told, [(1, "a"), (2, "b")])


class Refusals(unittest.TestCase):
    def refused(self, error, things, base):
        before = list(things)
        with self.subTest(things=things, base=base):
            with self.assertRaises(error) as caught:
                ordered(things, base)
            self.assertIs(caught.exception.__class__, error)
            self.assertEqual(things, before)

    def test_a_base_that_is_none(self):
        for base in NO_BASES:
            for things in ([], [(1, "a")], [(2, "b"), (1, "a")]):
                self.refused(NoBase, things, base)

    def test_a_number_below_nought_wherever_it_stands(self):
        for base in BASES:
            for number in (-1, -2, -16, -(10 ** 249)):
                self.refused(NoNumber, [(number, "a")], base)
                self.refused(NoNumber, [(number, "a"), (2, "b")], base)
                self.refused(NoNumber, [(2, "b"), (number, "a")], base)
                self.refused(NoNumber, [(2, "b"), (number, "a"), (0, "c")], base)
                self.refused(NoNumber, [(0, ""), (number, ""), (number, "")], base)

    def test_no_base_is_looked_at_ahead_of_no_number(self):
        for base in NO_BASES:
            self.refused(NoBase, [(-1, "a")], base)
            self.refused(NoBase, [(2, "b"), (-1, "a")], base)


if __name__ == "__main__":
    unittest.main()
