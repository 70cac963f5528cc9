"""Points [15] and [16]: work that waits, its longest way, heights, and what a shortening gains."""

import itertools
import random
import unittest

from sureticks.errors import InvalidLengths, InvalidNumber, InvalidWaits, TickError
from sureticks.waiting import (
    Work, ending, gain, heights, heights_hold, longest, shortened, slack,
)
from tests.samples import CHAIN, Couple, Step, is_plain
from tests.searches import any_values, are_numbers_in, changed_once, is_number, some_of

# 0 and 1 begin; 2 waits for both, 3 for 1 alone, 4 for 2 and 3; 5 waits for none.
WORK = Work((3, 5, 2, 4, 1, 7), ((0, 2), (1, 2), (1, 3), (2, 4), (3, 4)))
ONE = Work((0,), ())
ROW = Work((999999,) * 8, tuple((i, i + 1) for i in range(7)))
ALL = Work((1, 2, 3, 4, 5, 6, 7, 8), tuple(itertools.combinations(range(8), 2)))


def pairs_of(pieces):
    return tuple(itertools.combinations(range(pieces), 2))


def ways_of(work):
    """All ways, by the words of point [15]: each ascending row of pieces is looked at."""
    rows = some_of(range(len(work.lengths)))[1:]
    return [row for row in rows if all(pair in work.waits for pair in zip(row, row[1:]))]


def length_of(work, way):
    return sum(work.lengths[piece] for piece in way)


def end_of(work):
    return max(length_of(work, way) for way in ways_of(work))


def are_heights(work, many, value):
    """Whether value is heights of which none is more than the number many, by the words of point [15]."""
    if not is_number(many) or many < 0:
        return False
    if not are_numbers_in(value, 0, many) or len(value) != len(work.lengths):
        return False
    if any(value[piece] < length for piece, length in enumerate(work.lengths)):
        return False
    return all(value[j] >= work.lengths[j] + value[i] for i, j in work.waits)


def small_works():
    """All works of up to three pieces with lengths up to 2, and some of four and five."""
    found = []
    for pieces in (1, 2, 3):
        for waits in some_of(pairs_of(pieces)):
            found.extend(Work(lengths, waits) for lengths in itertools.product(range(3), repeat=pieces))
    chance = random.Random(15)
    for pieces, many in ((4, 60), (5, 60), (7, 15), (8, 15)):
        for _ in range(many):
            waits = tuple(pair for pair in pairs_of(pieces) if chance.randrange(2))
            found.append(Work(tuple(chance.choice((0, 0, 1, 2, 3, 9)) for _ in range(pieces)), waits))
    return found


def anew(work):
    return Work(tuple(list(work.lengths)), tuple(tuple(list(pair)) for pair in work.waits))


class TestWork(unittest.TestCase):
    def lengths_refused(self, lengths, waits=()):
        with self.assertRaises(InvalidLengths) as held:
            Work(lengths, waits)
        self.assertIs(held.exception.value, lengths)
        self.assertIsInstance(held.exception, TickError)

    def waits_refused(self, lengths, waits):
        with self.assertRaises(InvalidWaits) as held:
            Work(lengths, waits)
        self.assertIs(held.exception.value, waits)
        self.assertIsInstance(held.exception, TickError)

    def test_attributes(self):
        work = Work((3, 0, 999999), ((0, 1), (0, 2)))
        self.assertEqual((work.lengths, work.waits), ((3, 0, 999999), ((0, 1), (0, 2))))
        self.assertTrue(is_plain((work.lengths, work.waits)))
        self.assertEqual(set(vars(work)), {"lengths", "waits"})
        self.assertIn("__eq__", vars(Work))
        self.assertEqual(Work.__module__, "sureticks.waiting")

    def test_one_to_eight_pieces(self):
        for pieces in range(1, 9):
            self.assertEqual(Work((1,) * pieces, ()).lengths, (1,) * pieces)
            self.assertEqual(Work((1,) * pieces, pairs_of(pieces)).waits, pairs_of(pieces))
        for pieces in (0, 9, 10, 16, 29000):
            self.lengths_refused((1,) * pieces)

    def test_lengths_from_0_to_999999(self):
        for length in (0, 1, 999998, 999999):
            self.assertEqual(Work((length, 5), ()).lengths, (length, 5))
        for wrong in (-1, 1000000, 10 ** 11, True, False, None, "1", (1,), [1], (), CHAIN, WORK):
            for lengths in ((wrong,), (wrong, 1), (1, wrong), (1,) * 7 + (wrong,)):
                self.lengths_refused(lengths)

    def test_lengths_may_be_any_value(self):
        for value in any_values() + [[1], [1, 2], "1", 1, WORK]:
            if repr(value) != "(0, 1)":
                self.lengths_refused(value)

    def test_every_ascending_tuple_of_pairs(self):
        for pieces in (1, 2, 3, 4):
            for waits in some_of(pairs_of(pieces)):
                self.assertEqual(Work((1,) * pieces, waits).waits, waits)

    def test_waits_out_of_order_or_twice(self):
        for waits in itertools.product(pairs_of(3), repeat=2):
            if waits[0] >= waits[1]:
                self.waits_refused((1, 1, 1), waits)
        self.waits_refused((1, 1, 1), ((0, 1), (1, 2), (0, 2)))
        self.waits_refused((1, 1, 1), ((0, 1), (0, 2), (1, 2), (1, 2)))

    def test_pairs_that_are_no_waits(self):
        for pair in (
            (1, 0), (0, 0), (2, 2), (0, 3), (3, 4), (-1, 0), (0,), (0, 1, 2), (), 0, None, "01", [0, 1], (0, True),
            (False, 1), (0, None), ("0", "1"), ((0,), 1), (0, 10 ** 11), WORK, (WORK, WORK),
        ):
            self.waits_refused((1, 1, 1), (pair,))
            self.waits_refused((1, 1, 1), ((0, 1), pair))
            self.waits_refused((1, 1, 1), (pair, (1, 2)))
        self.waits_refused((1,), ((0, 1),))
        self.waits_refused((1,) * 8, ((0, 8),))

    def test_waits_may_be_any_value(self):
        for value in any_values() + [[(0, 1)], [], (0, 1), "", WORK]:
            if repr(value) != "()":
                self.waits_refused((1, 2), value)

    def test_lengths_are_refused_first(self):
        for value in any_values():
            self.lengths_refused((), value)
            self.lengths_refused([value], value)
        self.lengths_refused((1,) * 9, ((1, 0),))

    def test_equality(self):
        self.assertEqual(anew(WORK), WORK)
        self.assertFalse(anew(WORK) != WORK)
        self.assertNotEqual(Work((1, 2), ()), Work((2, 1), ()))
        self.assertNotEqual(Work((1, 2), ()), Work((1, 2), ((0, 1),)))
        self.assertNotEqual(Work((1, 2), ()), Work((1, 2, 0), ()))
        for other in any_values() + [CHAIN, WORK.lengths, (WORK.lengths, WORK.waits), object()]:
            self.assertIs(WORK == other, False)
            self.assertIs(other == WORK, False)
            self.assertIs(WORK != other, True)

    def test_not_iterable(self):
        for look in (iter, list, tuple, len):
            with self.assertRaises(TypeError):
                look(WORK)
        with self.assertRaises(TypeError):
            3 in WORK

    def test_names_and_what_is_kept(self):
        self.assertEqual(Work(waits=WORK.waits, lengths=WORK.lengths), WORK)
        work = Work(Couple(Step.TWO, 5), (Couple(Step.NONE, Step.ONE),))
        self.assertEqual(work, Work((2, 5), ((0, 1),)))
        self.assertTrue(is_plain((work.lengths, work.waits)))
        lengths = [1, 2]
        self.lengths_refused(lengths)
        self.assertEqual(lengths, [1, 2])


class TestWays(unittest.TestCase):
    def test_a_worked_work(self):
        self.assertEqual(ending(WORK), 10)
        self.assertEqual(longest(WORK), (1, 3, 4))
        self.assertEqual(heights(WORK), (3, 5, 7, 9, 10, 7))
        self.assertEqual([slack(WORK, piece) for piece in range(6)], [4, 0, 2, 0, 0, 3])

    def test_one_and_eight_pieces(self):
        self.assertEqual((ending(ONE), longest(ONE), heights(ONE), slack(ONE, 0)), (0, (0,), (0,), 0))
        self.assertEqual(ending(ROW), 8 * 999999)
        self.assertEqual(longest(ROW), tuple(range(8)))
        self.assertEqual(heights(ROW), tuple(999999 * many for many in range(1, 9)))
        self.assertEqual((ending(ALL), longest(ALL)), (36, tuple(range(8))))
        self.assertEqual(heights(ALL), (1, 3, 6, 10, 15, 21, 28, 36))
        self.assertEqual([slack(ALL, piece) for piece in range(8)], [0] * 8)

    def test_the_first_of_equal_ways(self):
        self.assertEqual(longest(Work((2, 2, 2), ())), (0,))
        self.assertEqual(longest(Work((1, 2, 2), ((0, 1), (0, 2)))), (0, 1))
        self.assertEqual(longest(Work((1, 1, 2), ((0, 1),))), (0, 1))
        self.assertEqual(longest(Work((1, 1, 1, 1), ((0, 2), (1, 2), (1, 3)))), (0, 2))
        self.assertEqual(longest(Work((0, 1, 2), ((1, 2),))), (1, 2))

    def test_pieces_of_length_0(self):
        # A shorter way is first where it begins the other one, else the one that begins lower.
        self.assertEqual(longest(Work((0, 0, 0), ((0, 1), (1, 2)))), (0,))
        self.assertEqual(longest(Work((0, 5), ((0, 1),))), (0, 1))
        self.assertEqual(longest(Work((5, 0), ((0, 1),))), (0,))
        self.assertEqual(longest(Work((0, 5, 0, 5), ((0, 1), (1, 2), (2, 3)))), (0, 1, 2, 3))
        self.assertEqual(longest(Work((5, 0, 5), ((0, 1), (0, 2), (1, 2)))), (0, 1, 2))
        self.assertEqual(longest(Work((5, 5, 0), ((0, 1), (0, 2)))), (0, 1))
        self.assertEqual(longest(Work((0, 0, 5), ((0, 2), (1, 2)))), (0, 2))
        self.assertEqual(longest(Work((0, 0, 5), ((0, 1), (0, 2), (1, 2)))), (0, 1, 2))
        self.assertEqual(longest(Work((0,) * 8, pairs_of(8))), (0,))

    def test_a_search_through_all_ways(self):
        for work in small_works():
            ways = ways_of(work)
            end = end_of(work)
            self.assertEqual(ending(work), end)
            self.assertEqual(longest(work), min(way for way in ways if length_of(work, way) == end))
            for piece in range(len(work.lengths)):
                with_it = max(length_of(work, way) for way in ways if piece in way)
                self.assertEqual(slack(work, piece), end - with_it)
            self.assertTrue(is_plain((ending(work), longest(work), heights(work), slack(work, 0))))

    def test_the_ending_is_what_heights_show(self):
        for work in small_works():
            told = heights(work)
            self.assertEqual(max(told), ending(work))
            self.assertTrue(are_heights(work, ending(work), told))
            self.assertIs(heights_hold(work, ending(work), told), True)
            self.assertIs(heights_hold(work, ending(work) + 1, told), True)
            self.assertIs(heights_hold(work, ending(work) - 1, told), False)

    def test_no_heights_are_less(self):
        for work in small_works():
            if len(work.lengths) < 4:
                rows = itertools.product(range(ending(work) + 1), repeat=len(work.lengths))
                found = [row for row in rows if are_heights(work, ending(work), row)]
                self.assertEqual(tuple(map(min, zip(*found))), heights(work))
                self.assertIn(heights(work), found)
        for work in (WORK, ROW, ALL):
            told = heights(work)
            for place, height in enumerate(told):
                self.assertFalse(are_heights(work, 10 ** 9, told[:place] + (height - 1,) + told[place + 1:]))

    def test_works_by_turns(self):
        told = [(longest(work), heights(work)) for work in (WORK, ROW, ALL)]
        self.assertEqual([(longest(work), heights(work)) for work in map(anew, (WORK, ROW, ALL))], told)
        self.assertEqual(WORK, Work((3, 5, 2, 4, 1, 7), ((0, 2), (1, 2), (1, 3), (2, 4), (3, 4))))

    def test_defined_in_their_file(self):
        for thing in (ending, longest, heights, heights_hold, shortened, gain, slack):
            self.assertEqual(thing.__module__, "sureticks.waiting")
        for look in (ending, longest, heights):
            self.assertEqual(look(work=WORK), look(WORK))


class TestHeightsHold(unittest.TestCase):
    def test_all_rows(self):
        for work in (Work((1, 0, 1), ((0, 1), (1, 2))), Work((0, 0, 0), ()), Work((2, 1, 1), ((0, 2), (1, 2)))):
            for many in range(-1, 5):
                taken = 0
                for row in itertools.product(range(-1, 5), repeat=3):
                    self.assertIs(heights_hold(work, many, row), are_heights(work, many, row))
                    taken += are_heights(work, many, row)
                # No way is longer than many exactly if there are such heights.
                self.assertIs(taken > 0, many >= end_of(work))

    def test_each_bound(self):
        for value, many in (
            ((3, 5, 7, 9, 10, 7), 10), ((5, 5, 9, 9, 10, 10), 10), ((3, 6, 8, 10, 11, 7), 11),
            ((9, 9, 20, 30, 40, 50), 50), ((3, 5, 7, 9, 10, 10 ** 11), 10 ** 11),
        ):
            self.assertTrue(are_heights(WORK, many, value))
            self.assertIs(heights_hold(WORK, many, value), True)
        for value in (
            (2, 5, 7, 9, 10, 7), (3, 4, 7, 9, 10, 7), (3, 5, 6, 9, 10, 7), (3, 5, 7, 8, 10, 7), (3, 5, 7, 9, 9, 7),
            (3, 5, 7, 9, 10, 6), (6, 5, 7, 9, 10, 7), (3, 6, 7, 9, 10, 7), (3, 5, 7, 9, 10, 11),
        ):
            self.assertFalse(are_heights(WORK, 10, value))
            self.assertIs(heights_hold(WORK, 10, value), False)

    def test_changed_at_one_place(self):
        for work in (WORK, ONE, ROW, Work((0, 1), ((0, 1),)), Work((1, 1), ())):
            told = heights(work)
            refused = 0
            for other in changed_once(told) + [told + told, told[:-1], told[::-1]]:
                for many in (ending(work), ending(work) + 1, 10 ** 11):
                    self.assertIs(heights_hold(work, many, other), are_heights(work, many, other), other)
                refused += not are_heights(work, ending(work), other)
            self.assertGreater(refused, 10)

    def test_bools(self):
        work = Work((0, 1), ((0, 1),))
        self.assertIs(heights_hold(work, 1, (0, 1)), True)
        for many, value in ((True, (0, 1)), (1, (False, 1)), (1, (0, True)), (1, (False, True)), (1, [0, 1])):
            self.assertIs(heights_hold(work, many, value), False)
        self.assertIs(heights_hold(ONE, 0, (0,)), True)
        self.assertIs(heights_hold(ONE, False, (0,)), False)
        self.assertIs(heights_hold(ONE, 0, (False,)), False)

    def test_any_value(self):
        for value in any_values() + [WORK, CHAIN]:
            self.assertIs(heights_hold(WORK, 10, value), False)
            self.assertIs(heights_hold(WORK, value, value), False)
            self.assertIs(heights_hold(WORK, 10, (value,) * 6), False)
            self.assertIs(heights_hold(WORK, 10, heights(WORK)[:5] + (value,)), False)
            fine = is_number(value) and value >= 10
            self.assertIs(heights_hold(WORK, value, heights(WORK)), fine)
        self.assertIs(heights_hold(value=heights(WORK), many=10, work=WORK), True)
        self.assertIs(heights_hold(WORK, Step.TWO, (Step.TWO,) * 6), False)
        self.assertIs(heights_hold(Work((1, 2), ()), Step.TWO, Couple(Step.ONE, 2)), True)


class TestShortened(unittest.TestCase):
    def refused(self, work, piece, many, value):
        for look in (shortened, gain):
            with self.assertRaises(InvalidNumber) as held:
                look(work, piece, many)
            self.assertIs(held.exception.value, value)
            self.assertIsInstance(held.exception, TickError)

    def test_a_worked_work(self):
        self.assertEqual(shortened(WORK, 3, 4), Work((3, 5, 2, 0, 1, 7), WORK.waits))
        self.assertEqual(shortened(WORK, 1, 0), WORK)
        self.assertEqual([gain(WORK, 3, many) for many in range(5)], [0, 1, 2, 2, 2])
        self.assertEqual([gain(WORK, 1, many) for many in range(6)], [0, 1, 2, 3, 3, 3])
        self.assertEqual([gain(WORK, 0, many) for many in range(4)], [0] * 4)

    def test_a_search_through_all_ways(self):
        for work in small_works():
            for piece, length in enumerate(work.lengths):
                for many in range(length + 1):
                    lengths = list(work.lengths)
                    lengths[piece] -= many
                    other = shortened(work, piece, many)
                    self.assertEqual((other.lengths, other.waits), (tuple(lengths), work.waits))
                    self.assertEqual(gain(work, piece, many), end_of(work) - end_of(other))
                    self.assertIs(heights_hold(other, ending(work) - gain(work, piece, many), heights(other)), True)

    def test_numbers_up_to_the_length(self):
        for work in (WORK, ONE, ROW):
            for piece, length in enumerate(work.lengths):
                self.assertEqual(shortened(work, piece, length).lengths[piece], 0)
                for wrong in (length + 1, -1):
                    self.refused(work, piece, wrong, wrong)
        self.assertEqual(gain(ROW, 7, 999999), 999999)

    def test_pieces_and_numbers_of_all_kinds(self):
        for value in any_values() + [WORK, "0", (0,), [0], None, -1, 6, 7, True, False]:
            if not (is_number(value) and 0 <= value <= 5):
                self.refused(WORK, value, 1, value)
                self.refused(WORK, value, None, value)
                with self.assertRaises(InvalidNumber) as held:
                    slack(WORK, value)
                self.assertIs(held.exception.value, value)
            if not (is_number(value) and 0 <= value <= 3):
                self.refused(WORK, 0, value, value)
        self.refused(ONE, 1, 0, 1)
        self.refused(ONE, False, 0, False)
        self.refused(ONE, 0, False, False)

    def test_the_piece_is_refused_first(self):
        wrong = [1000]
        self.refused(WORK, wrong, "x", wrong)
        self.refused(WORK, 6, 10 ** 11, 6)
        self.refused(WORK, 5, 10 ** 11, 10 ** 11)

    def test_longer_by_the_slack(self):
        looked_at = 0
        for work in small_works() + [WORK, ALL]:
            for piece, length in enumerate(work.lengths):
                more = slack(work, piece)
                for beyond in (0, 1):
                    lengths = list(work.lengths)
                    lengths[piece] += more + beyond
                    self.assertEqual(ending(Work(tuple(lengths), work.waits)), ending(work) + beyond)
                looked_at += more > 0
        self.assertGreater(looked_at, 100)

    def test_longer_than_lengths_are_let(self):
        self.assertEqual(slack(Work((999999, 999999, 5), ((0, 1),)), 2), 2 * 999999 - 5)

    def test_names_and_works_by_turns(self):
        work, other = anew(WORK), Work((1, 2), ((0, 1),))
        told = [gain(WORK, 3, 2), slack(WORK, 2)]
        self.assertEqual(shortened(many=1, piece=0, work=other), Work((0, 2), ((0, 1),)))
        self.assertEqual([gain(many=2, piece=3, work=work), slack(piece=2, work=work)], told)
        self.assertEqual(other, Work((1, 2), ((0, 1),)))
        self.assertEqual(work, WORK)
        self.assertTrue(is_plain(shortened(WORK, Step.TWO, Step.ONE).lengths))
        self.assertIs(type(gain(WORK, Step.ONE, Step.TWO)), int)


if __name__ == "__main__":
    unittest.main()
