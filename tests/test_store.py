"""Points 1, 2 and 6 to 11: the store, its buckets, its moves and its refusals."""

import inspect
import unittest

from bucketfall import store as store_file
from bucketfall.errors import Bare, Late, NoBase, NoNumber
from bucketfall.figures import length, parting
from bucketfall.store import Store
from reckoning import Numbers, Plain, places, seen

BASES = range(2, 17)
NO_BASES = (1, 17, 0, -1, -2, -10, 18, 36, 10 ** 250, -(10 ** 250))
LEAST_LONG = 10 ** 249
MOST_LONG = 10 ** 250 - 1
EVERY_SIGN = "".join(chr(code) for code in range(ord(" "), ord("~") + 1) if code != ord("%"))


def filled(base, *things):
    """A store with things of these numbers and names."""
    store = Store(base)
    for number, name in things:
        store.put(number, name)
    return store


def emptied(base, *things):
    """A store from which all of these things are gone."""
    store = filled(base, *things)
    for _ in things:
        store.take()
    return store


def all_taken(store):
    return [store.take() for _ in range(store.many)]


class Interface(unittest.TestCase):
    def test_each_method_is_defined_in_the_class_with_these_arguments(self):
        listed = {
            "__init__": ["self", "base"],
            "put": ["self", "number", "name"],
            "take": ["self"],
            "least": ["self"],
            "rows": ["self"],
        }
        for name, arguments in listed.items():
            with self.subTest(name=name):
                self.assertEqual(list(inspect.signature(Store.__dict__[name]).parameters), arguments)
        self.assertEqual(Store.__module__, "bucketfall.store")
        self.assertIs(store_file.Store, Store)

    def test_attributes_are_there_from_the_beginning(self):
        for base in BASES:
            store = Store(base)
            for name, value in (("base", base), ("last", 0), ("many", 0), ("moves", 0)):
                self.assertIn(name, vars(store))
                self.assertEqual(getattr(store, name), value)
                self.assertIs(getattr(store, name).__class__, int)
            self.assertEqual(store.rows(), [])

    def test_kinds_of_values(self):
        store = Store(10)
        self.assertIsNone(store.put(12, "a"))
        self.assertIsNone(store.put(12, ""))
        self.assertIs(store.rows().__class__, list)
        for row in store.rows():
            self.assertIs(row.__class__, tuple)
            self.assertEqual([value.__class__ for value in row], [int, int, str, int])
        self.assertIs(store.least().__class__, tuple)
        self.assertEqual([value.__class__ for value in store.least()], [int, str])
        gone = store.take()
        self.assertIs(gone.__class__, tuple)
        self.assertEqual([value.__class__ for value in gone], [int, str, int])

    def test_arguments_by_name(self):
        store = Store(base=10)
        store.put(number=5, name="a")
        self.assertEqual(store.rows(), [(1, 5, "a", 0)])


class ByHand(unittest.TestCase):
    def test_base_10(self):
        store = filled(10, (305, "a"), (312, "b"), (401, "c"), (305, "d"))
        first = [(3, 305, "a", 0), (3, 312, "b", 0), (3, 401, "c", 0), (3, 305, "d", 0)]
        self.assertEqual(seen(store), (first, 0, 4, 0))
        self.assertEqual(store.take(), (305, "a", 1))
        self.assertEqual(seen(store), ([(0, 305, "d", 1), (2, 312, "b", 1), (3, 401, "c", 0)], 305, 3, 3))
        store.put(305, "e")
        store.put(319, "f")
        store.put(306, "g")
        rows = [(0, 305, "d", 1), (0, 305, "e", 0), (1, 306, "g", 0)]
        rows += [(2, 312, "b", 1), (2, 319, "f", 0), (3, 401, "c", 0)]
        self.assertEqual(seen(store), (rows, 305, 6, 3))
        self.assertEqual(store.take(), (305, "d", 1))
        self.assertEqual(seen(store), (rows[1:], 305, 5, 3))
        self.assertEqual(store.take(), (305, "e", 0))
        self.assertEqual(seen(store), (rows[2:], 305, 4, 3))
        self.assertEqual(store.take(), (306, "g", 1))
        self.assertEqual(seen(store), (rows[3:], 306, 3, 4))
        self.assertEqual(store.take(), (312, "b", 2))
        self.assertEqual(seen(store), ([(1, 319, "f", 1), (3, 401, "c", 0)], 312, 2, 6))
        self.assertEqual(store.take(), (319, "f", 2))
        self.assertEqual(seen(store), ([(3, 401, "c", 0)], 319, 1, 7))
        self.assertEqual(store.take(), (401, "c", 1))
        self.assertEqual(seen(store), ([], 401, 0, 8))

    def test_base_2_and_a_thing_that_is_moved_at_each_place(self):
        store = filled(2, (7, "seven"), (4, "four"), (6, "six"))
        self.assertEqual(seen(store), ([(3, 7, "seven", 0), (3, 4, "four", 0), (3, 6, "six", 0)], 0, 3, 0))
        self.assertEqual(store.take(), (4, "four", 1))
        self.assertEqual(seen(store), ([(2, 7, "seven", 1), (2, 6, "six", 1)], 4, 2, 3))
        self.assertEqual(store.take(), (6, "six", 2))
        self.assertEqual(seen(store), ([(1, 7, "seven", 2)], 6, 1, 5))
        self.assertEqual(store.take(), (7, "seven", 3))
        self.assertEqual(seen(store), ([], 7, 0, 6))

    def test_base_16(self):
        store = filled(16, (0xfff, "x"), (0xf0f, "y"), (0x10, "z"), (0xf, "w"), (0, "nought"))
        rows = [(0, 0, "nought", 0), (1, 0xf, "w", 0), (2, 0x10, "z", 0), (3, 0xfff, "x", 0), (3, 0xf0f, "y", 0)]
        self.assertEqual(seen(store), (rows, 0, 5, 0))
        self.assertEqual(store.take(), (0, "nought", 0))
        self.assertEqual(seen(store), (rows[1:], 0, 4, 0))
        self.assertEqual(store.take(), (0xf, "w", 1))
        self.assertEqual(seen(store), (rows[2:], 0xf, 3, 1))
        self.assertEqual(store.take(), (0x10, "z", 1))
        self.assertEqual(seen(store), (rows[3:], 0x10, 2, 2))
        self.assertEqual(store.take(), (0xf0f, "y", 1))
        self.assertEqual(seen(store), ([(2, 0xfff, "x", 1)], 0xf0f, 1, 4))
        self.assertEqual(store.take(), (0xfff, "x", 2))
        self.assertEqual(seen(store), ([], 0xfff, 0, 5))

    def test_some_are_moved_and_some_stay_in_their_order(self):
        store = filled(10, (57, "a"), (33, "b"), (58, "c"), (31, "d"), (99, "e"), (33, "f"), (57, "g"), (31, "h"))
        self.assertEqual(store.take(), (31, "d", 1))
        rows = [(0, 31, "h", 1), (1, 33, "b", 1), (1, 33, "f", 1)]
        rows += [(2, 57, "a", 0), (2, 58, "c", 0), (2, 99, "e", 0), (2, 57, "g", 0)]
        self.assertEqual(seen(store), (rows, 31, 7, 4))

    def test_one_that_comes_lies_behind_those_that_stayed_and_those_that_were_moved(self):
        store = filled(10, (57, "a"), (33, "b"), (31, "d"), (60, "e"), (31, "h"))
        store.take()
        for number in (60, 33, 31, 57):
            store.put(number, "new")
        rows = [(0, 31, "h", 1), (0, 31, "new", 0), (1, 33, "b", 1), (1, 33, "new", 0)]
        rows += [(2, 57, "a", 0), (2, 60, "e", 0), (2, 60, "new", 0), (2, 57, "new", 0)]
        self.assertEqual(seen(store), (rows, 31, 8, 3))

    def test_nothing_else_is_moved(self):
        store = filled(10, (12, "a"), (999, "far"), (5000, "farther"), (15, "b"), (999, "same"))
        store.take()
        rows = [(1, 15, "b", 1), (3, 999, "far", 0), (3, 999, "same", 0), (4, 5000, "farther", 0)]
        self.assertEqual(seen(store), (rows, 12, 4, 2))

    def test_one_that_comes_after_some_went_is_laid_by_the_last_one_gone(self):
        store = filled(10, (305, "a"))
        store.take()
        for number in (306, 315, 405, 1305, 305):
            store.put(number, "n")
        rows = [(0, 305, "n", 0), (1, 306, "n", 0), (2, 315, "n", 0), (3, 405, "n", 0), (4, 1305, "n", 0)]
        self.assertEqual(seen(store), (rows, 305, 5, 1))


class Came(unittest.TestCase):
    def test_the_bucket_in_a_new_store_is_the_length(self):
        for base in BASES:
            numbers = [0, 1, 2, 9, 305, LEAST_LONG, MOST_LONG]
            for exponent in range(1, 60):
                numbers += [base ** exponent - 1, base ** exponent, base ** exponent + 1]
            for number in numbers:
                store = filled(base, (number, "n"))
                self.assertEqual(seen(store), ([(length(number, base), number, "n", 0)], 0, 1, 0))
                self.assertEqual(store.base, base)

    def test_powers_of_the_base_and_one_less_lie_in_neighbouring_buckets(self):
        for base in BASES:
            store = filled(base, (base ** 5, "power"), (base ** 5 - 1, "one less"))
            self.assertEqual(store.rows(), [(5, base ** 5 - 1, "one less", 0), (6, base ** 5, "power", 0)])
            self.assertEqual(store.take(), (base ** 5 - 1, "one less", 1))
            self.assertEqual(store.rows(), [(6, base ** 5, "power", 0)])
            self.assertEqual(store.take(), (base ** 5, "power", 1))

    def test_number_0(self):
        for base in BASES:
            store = filled(base, (0, "a"), (0, ""), (0, "a"))
            self.assertEqual(store.rows(), [(0, 0, "a", 0), (0, 0, "", 0), (0, 0, "a", 0)])
            self.assertEqual(all_taken(store), [(0, "a", 0), (0, "", 0), (0, "a", 0)])
            self.assertEqual(seen(store), ([], 0, 0, 0))
            store.put(0, "again")
            self.assertEqual(store.rows(), [(0, 0, "again", 0)])

    def test_equal_numbers_with_equal_and_with_different_names(self):
        for base in BASES:
            names = ["b", "a", "b", "", "b", "c", "a", ""]
            store = filled(base, *[(1234, name) for name in names])
            place = length(1234, base)
            self.assertEqual(store.rows(), [(place, 1234, name, 0) for name in names])
            self.assertEqual(store.take(), (1234, "b", 1))
            self.assertEqual(seen(store), ([(0, 1234, name, 1) for name in names[1:]], 1234, 7, 8))
            store.put(1234, "late one")
            told = [(1234, name, 1) for name in names[1:]] + [(1234, "late one", 0)]
            self.assertEqual(all_taken(store), told)

    def test_names_of_none_to_twenty_signs(self):
        names = ["", " ", EVERY_SIGN[:20], EVERY_SIGN[20:40], EVERY_SIGN[-20:], "~" * 20] + list(EVERY_SIGN)
        names = names[:100]
        store = filled(10, *[(7, name) for name in names])
        self.assertEqual(store.rows(), [(1, 7, name, 0) for name in names])
        self.assertEqual(all_taken(store), [(7, name, 1) for name in names])

    def test_several_of_one_name(self):
        store = filled(10, (9, "n"), (4, "n"), (16, "n"))
        self.assertEqual(all_taken(store), [(4, "n", 1), (9, "n", 1), (16, "n", 1)])

    def test_numbers_of_250_figures(self):
        for base in BASES:
            store = filled(base, (MOST_LONG, "a"), (MOST_LONG - 1, "b"), (LEAST_LONG, "c"), (MOST_LONG, "d"))
            taken = all_taken(store)
            self.assertEqual([thing[:2] for thing in taken[:2]], [(LEAST_LONG, "c"), (MOST_LONG - 1, "b")])
            self.assertEqual([thing[:2] for thing in taken[2:]], [(MOST_LONG, "a"), (MOST_LONG, "d")])
            self.assertEqual(store.last, MOST_LONG)

    def test_beyond_the_limits_is_no_error(self):
        store = filled(10, (10 ** 300, "n" * 30), (10 ** 300 + 1, ""), *[(at, "n") for at in range(130)])
        self.assertEqual(store.many, 132)
        taken = all_taken(store)
        self.assertEqual([thing[0] for thing in taken[:130]], list(range(130)))
        self.assertEqual(taken[130:], [(10 ** 300, "n" * 30, 1), (10 ** 300 + 1, "", 2)])


class Told(unittest.TestCase):
    def test_least_changes_nothing(self):
        store = filled(10, (305, "a"), (312, "b"), (401, "c"), (305, "d"))
        before = seen(store)
        for _ in range(3):
            self.assertEqual(store.least(), (305, "a"))
            self.assertEqual(seen(store), before)
        store.take()
        before = seen(store)
        self.assertEqual(store.least(), (305, "d"))
        self.assertEqual(seen(store), before)

    def test_least_is_the_first_of_the_least_number_and_not_of_the_bucket(self):
        store = filled(10, (39, "a"), (33, "z"), (35, "c"), (33, "b"))
        self.assertEqual(store.least(), (33, "z"))
        self.assertEqual(store.last, 0)

    def test_least_does_not_keep_others_from_coming(self):
        store = filled(10, (39, "a"))
        store.least()
        store.put(5, "less")
        self.assertEqual(store.least(), (5, "less"))
        self.assertEqual(store.take(), (5, "less", 1))

    def test_the_list_of_rows_is_a_new_one_each_time(self):
        store = filled(10, (305, "a"), (5, "b"), (0, "c"), (312, "d"))
        for _ in range(4):
            before = seen(store)
            least = store.least()
            told = store.rows()
            told.append((9, 9, "more", 9))
            told[0] = (8, 8, "other", 8)
            told.reverse()
            self.assertEqual(seen(store), before)
            told.clear()
            self.assertEqual(seen(store), before)
            self.assertEqual(store.least(), least)
            store.take()
        self.assertEqual(store.rows(), [])
        store.rows().append((0, 0, "", 0))
        self.assertEqual(seen(store), ([], 312, 0, store.moves))

    def test_a_list_that_was_told_stays_when_the_store_changes(self):
        store = filled(10, (305, "a"), (312, "b"))
        told = store.rows()
        store.take()
        store.put(400, "c")
        self.assertEqual(told, [(3, 305, "a", 0), (3, 312, "b", 0)])

    def test_a_list_that_was_told_stays_when_another_one_is_told(self):
        store = filled(10, (305, "a"), (312, "b"))
        told = store.rows()
        self.assertIsNot(store.rows(), told)
        store.take()
        self.assertEqual(store.rows(), [(2, 312, "b", 1)])
        self.assertEqual(told, [(3, 305, "a", 0), (3, 312, "b", 0)])

    def test_the_buckets_are_told_by_their_numbers(self):
        things = [(10 ** exponent, "n") for exponent in (11, 2, 9, 0, 10, 1, 3)]
        store = filled(10, *things)
        self.assertEqual([row[0] for row in store.rows()], [1, 2, 3, 4, 10, 11, 12])


class Gone(unittest.TestCase):
    def test_all_gone_and_others_come(self):
        for base in BASES:
            store = emptied(base, (12, "a"), (305, "b"), (12, "c"))
            moves = store.moves
            self.assertEqual(seen(store), ([], 305, 0, moves))
            store.put(305, "equal")
            store.put(306, "more")
            rows = [(0, 305, "equal", 0), (places(306, 305, base), 306, "more", 0)]
            self.assertEqual(seen(store), (rows, 305, 2, moves))
            self.assertEqual(store.take(), (305, "equal", 0))
            self.assertEqual(store.take(), (306, "more", 1))
            self.assertEqual(seen(store), ([], 306, 0, moves + 1))

    def test_moves_of_things_that_went_off_are_counted_on(self):
        store = Store(10)
        for number in range(1, 30):
            store.put(number, "n")
            self.assertEqual(store.take(), (number, "n", 1))
            self.assertEqual(seen(store), ([], number, 0, number))

    def test_a_number_equal_to_that_of_the_last_one_gone_goes_at_once(self):
        store = filled(10, (5, "a"), (7, "b"))
        store.take()
        store.put(5, "c")
        store.put(5, "d")
        self.assertEqual(all_taken(store), [(5, "c", 0), (5, "d", 0), (7, "b", 1)])


class Reckoned(unittest.TestCase):
    def agree(self, store, plain):
        self.assertEqual(seen(store), plain.seen())
        self.assertEqual(store.base, plain.base)
        if plain.laid:
            self.assertEqual(store.least(), plain.least())
            self.assertEqual(seen(store), plain.seen())

    def put(self, store, plain, number, name):
        self.assertIsNone(store.put(number, name))
        plain.put(number, name)
        self.agree(store, plain)

    def take(self, store, plain):
        expected = plain.least()
        gone = store.take()
        self.assertEqual(gone, plain.take())
        self.assertEqual(gone[:2], expected)
        self.assertLessEqual(gone[2], length(gone[0], store.base))
        self.agree(store, plain)

    def test_things_come_and_go_in_turn(self):
        for base in BASES:
            for spread in (1, 2, 5, base, base ** 2 + 1, base ** 4, 10 ** 12):
                numbers = Numbers(base * 1000 + spread)
                store, plain = Store(base), Plain(base)
                with self.subTest(base=base, spread=spread):
                    for step in range(60):
                        if plain.laid and numbers.below(5) < 2:
                            self.take(store, plain)
                        else:
                            self.put(store, plain, plain.last + numbers.below(spread), "n" + str(step % 7))
                    while plain.laid:
                        self.take(store, plain)

    def test_a_hundred_things(self):
        for base in (2, 3, 10, 16):
            for limit in (3, 50, 10 ** 5, 10 ** 20):
                numbers = Numbers(base + limit)
                store, plain = Store(base), Plain(base)
                with self.subTest(base=base, limit=limit):
                    for at in range(100):
                        number = numbers.below(limit)
                        store.put(number, str(at))
                        plain.put(number, str(at))
                    self.agree(store, plain)
                    while plain.laid:
                        self.take(store, plain)

    def test_numbers_of_250_figures(self):
        for base in (2, 7, 10, 16):
            numbers = Numbers(base)
            store, plain = Store(base), Plain(base)
            step = 10 ** 248
            with self.subTest(base=base):
                for round_number in range(8):
                    least = LEAST_LONG + round_number * step
                    for number in (least, least, least + numbers.below(step), least + numbers.below(9), MOST_LONG):
                        if number >= plain.last:
                            self.put(store, plain, number, "long")
                    self.take(store, plain)
                    self.take(store, plain)
                while plain.laid:
                    self.take(store, plain)

    def test_many_rounds_of_emptying(self):
        for base in (2, 5, 10, 16):
            numbers = Numbers(base + 77)
            store, plain = Store(base), Plain(base)
            with self.subTest(base=base):
                for _ in range(12):
                    for at in range(numbers.below(6)):
                        self.put(store, plain, plain.last + numbers.below(base ** 3), str(at))
                    while plain.laid:
                        self.take(store, plain)

    def test_each_thing_lies_where_it_parts_from_the_last_one_gone(self):
        for base in BASES:
            numbers = Numbers(base + 5)
            store = filled(base, *[(numbers.below(3000), str(at)) for at in range(50)])
            gone = []
            while store.many:
                for bucket, number, _, _ in store.rows():
                    self.assertEqual(bucket, parting(number, store.last, base))
                gone.append(store.take()[0])
                self.assertEqual(store.last, gone[-1])
            self.assertEqual(gone, sorted(gone))

    def test_as_many_moves_as_the_number_has_figures(self):
        for base in BASES:
            # Each one ahead of the last shares one figure more with it, so that it is moved at each place.
            last = base ** 12 - 1
            things = [(last - last % base ** place, str(place)) for place in range(11, 0, -1)] + [(last, "last")]
            store = filled(base, *things)
            taken = all_taken(store)
            self.assertEqual([thing[2] for thing in taken], list(range(1, 13)))
            self.assertEqual(taken[-1], (last, "last", length(last, base)))
            self.assertEqual(store.moves, sum(range(1, 13)))

    def test_two_stores_side_by_side(self):
        for one_base, other_base in ((2, 16), (10, 10), (16, 3)):
            numbers = Numbers(one_base * 100 + other_base)
            one, other = Store(one_base), Store(other_base)
            plain_one, plain_other = Plain(one_base), Plain(other_base)
            with self.subTest(one_base=one_base, other_base=other_base):
                for step in range(120):
                    store, plain = (one, plain_one) if numbers.below(2) else (other, plain_other)
                    if plain.laid and numbers.below(5) < 2:
                        self.take(store, plain)
                    else:
                        self.put(store, plain, plain.last + numbers.below(400), str(step))
                    self.assertEqual(seen(one), plain_one.seen())
                    self.assertEqual(seen(other), plain_other.seen())

    def test_a_refusal_of_one_store_leaves_the_other(self):
        one, other = emptied(10, (50, "a")), filled(10, (5, "b"))
        before = seen(other)
        with self.assertRaises(Late):
            one.put(49, "c")
        with self.assertRaises(Bare):
            one.take()
        self.assertEqual(seen(other), before)
        other.put(1, "less")
        self.assertEqual(other.take(), (1, "less", 1))
        self.assertEqual(seen(one), ([], 50, 0, 1))


class Refusals(unittest.TestCase):
    def refused(self, error, store, deed, *arguments):
        before = seen(store)
        least = store.least() if store.many else None
        with self.subTest(deed=deed, arguments=arguments):
            with self.assertRaises(error) as caught:
                getattr(store, deed)(*arguments)
            self.assertIs(caught.exception.__class__, error)
            self.assertEqual(seen(store), before)
            if store.many:
                self.assertEqual(store.least(), least)

    def test_a_base_that_is_none(self):
        for base in NO_BASES:
            with self.subTest(base=base):
                with self.assertRaises(NoBase) as caught:
                    Store(base)
                self.assertIs(caught.exception.__class__, NoBase)

    def test_the_least_and_the_greatest_base(self):
        for base, bucket in ((2, 8), (16, 2)):
            self.assertEqual(filled(base, (255, "n")).rows(), [(bucket, 255, "n", 0)])

    def test_a_number_below_nought(self):
        for base in BASES:
            for number in (-1, -2, -16, -(10 ** 249)):
                self.refused(NoNumber, Store(base), "put", number, "a")
                self.refused(NoNumber, filled(base, (0, "b"), (7, "c")), "put", number, "a")

    def test_no_number_is_looked_at_ahead_of_late(self):
        for base in BASES:
            for number in (-1, -2, -(10 ** 249)):
                self.refused(NoNumber, emptied(base, (5, "b")), "put", number, "a")
                store = filled(base, (5, "b"), (9, "c"))
                store.take()
                self.refused(NoNumber, store, "put", number, "a")

    def test_late(self):
        for base in BASES:
            for last in (1, 5, base, base ** 3, base ** 3 - 1, LEAST_LONG, MOST_LONG):
                for number in (last - 1, 0, last // 2):
                    self.refused(Late, emptied(base, (last, "b")), "put", number, "a")
                    store = filled(base, (last, "b"), (last + 1, "c"), (last, "d"))
                    store.take()
                    self.refused(Late, store, "put", number, "a")

    def test_only_the_last_one_gone_makes_late(self):
        store = filled(10, (50, "a"), (70, "b"))
        store.put(3, "less than all that are there")
        self.assertEqual(store.take(), (3, "less than all that are there", 1))
        store.put(3, "equal to the last one gone")
        store.put(49, "less than all others")
        self.refused(Late, store, "put", 2, "one less")
        self.assertEqual([thing[0] for thing in all_taken(store)], [3, 49, 50, 70])
        self.refused(Late, store, "put", 69, "one less")
        store.put(70, "equal")
        self.assertEqual(store.take(), (70, "equal", 0))

    def test_nought_is_never_late_as_long_as_none_or_only_noughts_went(self):
        for base in BASES:
            store = filled(base, (9, "a"))
            store.put(0, "b")
            store.take()
            store.put(0, "c")
            self.assertEqual(store.take(), (0, "c", 0))

    def test_bare_in_a_new_store(self):
        for base in BASES:
            store = Store(base)
            for deed in ("least", "take", "take", "least"):
                self.refused(Bare, store, deed)
            store.put(3, "a")
            self.assertEqual(store.take(), (3, "a", 1))

    def test_bare_in_a_store_that_was_emptied(self):
        for base in BASES:
            for things in ([(0, "a")], [(5, "a")], [(5, "a"), (5, "b"), (305, "c")], [(MOST_LONG, "")]):
                store = emptied(base, *things)
                for deed in ("least", "take", "take", "least"):
                    self.refused(Bare, store, deed)
                self.assertEqual(store.last, things[-1][0])

    def test_after_a_refusal_the_store_goes_on_as_if_it_had_not_been(self):
        for base in BASES:
            store, plain = Store(base), Plain(base)
            self.refused(Bare, store, "take")
            for number in (40, 12, 40, 77):
                self.refused(NoNumber, store, "put", -1, "bad")
                store.put(number, "n")
                plain.put(number, "n")
            while plain.laid:
                self.assertEqual(store.take(), plain.take())
                self.refused(Late, store, "put", plain.last - 1, "bad")
                self.refused(NoNumber, store, "put", -1, "bad")
                self.assertEqual(seen(store), plain.seen())
            self.refused(Bare, store, "least")
            self.assertEqual(seen(store), plain.seen())


if __name__ == "__main__":
    unittest.main()
