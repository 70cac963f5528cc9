"""Point [5]: functions and their edges."""

import itertools
import unittest

from sureticks.calls import Calls
from sureticks.errors import InvalidEdges, InvalidNumber, TickError
from tests.samples import ALL_CALLS, CHAIN, Couple, FULL, Step, is_plain, nested, odd_values


class TestCalls(unittest.TestCase):
    def number_refused(self, functions, edges=()):
        with self.assertRaises(InvalidNumber) as held:
            Calls(functions, edges)
        self.assertIs(held.exception.value, functions)
        self.assertIsInstance(held.exception, TickError)
        self.assertIsInstance(held.exception, ValueError)

    def edges_refused(self, functions, edges):
        with self.assertRaises(InvalidEdges) as held:
            Calls(functions, edges)
        self.assertIs(held.exception.value, edges)
        self.assertIsInstance(held.exception, TickError)
        self.assertIsInstance(held.exception, ValueError)

    def test_attributes(self):
        calls = Calls(3, ((0, 1), (0, 2)))
        self.assertEqual(calls.functions, 3)
        self.assertEqual(calls.edges, ((0, 1), (0, 2)))
        self.assertTrue(is_plain(calls.edges))

    def test_one_to_five_functions(self):
        for functions in range(1, 6):
            self.assertEqual(Calls(functions, ()).functions, functions)
            self.assertEqual(Calls(functions, ()).edges, ())
        for functions in (-5, -1, 0, 6, 7, 10 ** 11, -(10 ** 11)):
            self.number_refused(functions)

    def test_functions_may_be_any_value(self):
        for value in odd_values() + [1.0, [1], (1,), "1"]:
            self.number_refused(value)

    def test_all_edges(self):
        for functions in range(1, 6):
            edges = tuple(itertools.combinations(range(functions), 2))
            self.assertEqual(Calls(functions, edges).edges, edges)

    def test_every_ascending_tuple_of_edges(self):
        pairs = tuple(itertools.combinations(range(4), 2))
        for many in range(len(pairs) + 1):
            for edges in itertools.combinations(pairs, many):
                self.assertEqual(Calls(4, edges).edges, edges)

    def test_edges_out_of_order_or_twice(self):
        self.edges_refused(3, ((0, 2), (0, 1)))
        self.edges_refused(3, ((1, 2), (0, 1)))
        self.edges_refused(3, ((0, 1), (0, 1)))
        self.edges_refused(3, ((0, 1), (1, 2), (0, 2)))
        pairs = tuple(itertools.combinations(range(3), 2))
        for edges in itertools.product(pairs, repeat=3):
            if edges != pairs:
                self.edges_refused(3, edges)

    def test_pairs_that_are_no_edges(self):
        wrong = [
            (1, 0), (1, 1), (0, 0), (0, 3), (3, 4), (-1, 0), (-2, -1), (0,), (0, 1, 2), (), 0, None, "01",
            [0, 1], (0, True), (False, 1), (False, True), (0, None), (None, 1), ("0", "1"), (0, "1"),
            ((0,), 1), (0, (1,)), ([0], 1), (0, 10 ** 11), CHAIN, (CHAIN, CHAIN), nested(57),
        ]
        for pair in wrong:
            self.edges_refused(3, (pair,))
            self.edges_refused(3, (pair, (1, 2)))
            self.edges_refused(3, ((0, 1), pair))
            self.edges_refused(3, ((0, 1), (0, 2), (1, 2), pair))

    def test_edges_of_functions_that_are_not_there(self):
        self.edges_refused(1, ((0, 1),))
        self.edges_refused(4, ((0, 1), (3, 4)))
        self.assertEqual(Calls(5, ((0, 1), (3, 4))).edges, ((0, 1), (3, 4)))

    def test_edges_may_be_any_value(self):
        for value in odd_values() + [[(0, 1)], {(0, 1)}, {}, "((0, 1),)", (0, 1)]:
            self.edges_refused(5, value)

    def test_the_number_is_refused_first(self):
        for edges in odd_values():
            self.number_refused(0, edges)
            self.number_refused(True, edges)
        self.number_refused(6, ((1, 0),))

    def test_equality(self):
        self.assertEqual(Calls(3, ((0, 1), (1, 2))), CHAIN)
        self.assertFalse(Calls(3, ((0, 1), (1, 2))) != CHAIN)
        self.assertNotEqual(Calls(4, ((0, 1), (1, 2))), CHAIN)
        self.assertNotEqual(Calls(3, ((0, 1),)), CHAIN)
        self.assertNotEqual(Calls(3, ((0, 1), (0, 2))), CHAIN)
        for one, other in itertools.product(enumerate(ALL_CALLS), repeat=2):
            self.assertIs(one[1] == other[1], one[0] == other[0])
            self.assertIs(one[1] != other[1], one[0] != other[0])

    def test_equal_to_nothing_else(self):
        others = [value for value in odd_values() if not isinstance(value, Calls)]
        for other in others + [(3, CHAIN.edges), CHAIN.edges, 3, object()]:
            self.assertIs(CHAIN == other, False)
            self.assertIs(other == CHAIN, False)
            self.assertIs(CHAIN != other, True)

    def test_not_iterable(self):
        for look in (iter, list, tuple, len):
            with self.assertRaises(TypeError):
                look(CHAIN)
        with self.assertRaises(TypeError):
            (0, 1) in CHAIN

    def test_arguments_by_name(self):
        self.assertEqual(Calls(functions=3, edges=((0, 1), (1, 2))), CHAIN)
        self.assertEqual(Calls(edges=((0, 1), (1, 2)), functions=3), CHAIN)
        self.assertEqual(Calls(3, edges=((0, 1), (1, 2))), CHAIN)

    def test_what_is_kept_is_plain(self):
        calls = Calls(Step.TWO, (Couple(Step.NONE, Step.ONE),))
        self.assertEqual(calls, Calls(2, ((0, 1),)))
        self.assertTrue(is_plain((calls.functions, calls.edges)))

    def test_a_refused_list_is_not_changed(self):
        edges = [[0, 1], (0, 2)]
        self.edges_refused(3, edges)
        self.assertEqual(edges, [[0, 1], (0, 2)])

    def test_attributes_belong_to_the_object(self):
        self.assertEqual(set(vars(FULL)), {"functions", "edges"})
        self.assertIn("__eq__", vars(Calls))
        self.assertEqual(Calls.__module__, "sureticks.calls")


if __name__ == "__main__":
    unittest.main()
