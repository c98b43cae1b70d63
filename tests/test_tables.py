"""Points 2, 13 to 18: tables and schemes."""

import unittest
from itertools import combinations, permutations, product
from math import factorial

from fewestrules.tables import clash, count_orders, first_order, fits, is_scheme, is_table, order_of, table_of
from tests.helpers import (NAMES, THIRTEEN, TWELVE, WRONG_ORDERS, WRONG_TUPLES, assert_bad_values, assert_printed,
                           orders_of, reckoned_difference, same, some_orders)

ALL_ONES = tuple(tuple(4 if i == j else 1 for j in range(13)) for i in range(13))
GOOD = ((4, 1, 2), (1, 4, 1), (2, 1, 4))
CLASHING = ((4, 1, 2), (1, 4, 3), (2, 3, 4))

# None of these is a scheme.
WRONG_FORMS = (
    None, True, 0, 4, "", "4", [], [(4,)], {}, (4,), ((),), ([4],), ("4",), ((4,), (4,)), ((4, 1),), ((True,),),
    ((3,),), ((5,),), ((0,),), ((1,),), ((None,),), (("4",),), (((4,),),), ((4.0,),), ((4, 1), (2, 4)),
    ((4, 1), (1, 3)), ((3, 1), (1, 4)), ((4, 0), (0, 4)), ((4, 4), (4, 4)), ((4, True), (True, 4)),
    ((4, 1), (True, 4)), ((4, "1"), ("1", 4)), ((4, None), (None, 4)), ((4, -1), (-1, 4)), ((4, 1), [1, 4]),
    [(4, 1), (1, 4)], ((4, 1), (1,)), ((4, 1), (1, 4), (1, 1)), ((4, 1, 1), (1, 4, 1)), ((4, 1, 1), (1, 4, 1, 1)),
    ((4, 1, 2), (1, 4, 1), (1, 1, 4)), ((4, 1, 2), (1, 4, 3), (2, 2, 4)), ALL_ONES, ((4, 1.0), (1.0, 4)),
)


def scheme_of(order, letters):
    """The scheme that the order fits for the letters, which are just its own."""
    return tuple(tuple(reckoned_difference(order, one, other) for other in letters) for one in letters)


def all_schemes(many):
    """All schemes of so many rows."""
    pairs = list(combinations(range(many), 2))
    for numbers in product((1, 2, 3), repeat=len(pairs)):
        rows = [[4] * many for _ in range(many)]
        for (i, j), number in zip(pairs, numbers):
            rows[i][j] = rows[j][i] = number
        yield tuple(tuple(row) for row in rows)


def fitting_orders(letters):
    """For each scheme that some order of the letters fits, all these orders, the first one first."""
    found = {}
    for order in orders_of(letters):
        found.setdefault(scheme_of(order, letters), []).append(order)
    return found


def reckoned_clash(scheme):
    for i in range(len(scheme)):
        for j in range(i + 1, len(scheme)):
            for k in range(j + 1, len(scheme)):
                numbers = sorted([scheme[i][j], scheme[i][k], scheme[j][k]])
                if numbers[0] != numbers[1]:
                    return (i, j, k)
    return None


class Tables(unittest.TestCase):
    def test_of_orders(self):
        same(self, table_of(((), ())), ())
        same(self, table_of((("q",), ())), ((4,),))
        for order in some_orders(3, 150, 1, 12):
            table = table_of(order)
            same(self, table, scheme_of(order, order[0]))
            same(self, is_table(table), True)
            same(self, is_scheme(table), True)
            same(self, order_of(order[0], table), order)
            other = NAMES[:len(table)]
            same(self, order_of(other, table), (other, order[1]))

    def test_the_order_without_letters(self):
        same(self, order_of((), ()), ((), ()))
        same(self, is_table(()), True)
        same(self, is_scheme(()), True)

    def test_equal_orders_have_equal_tables(self):
        orders = list(orders_of(("a", "b", "c")))
        for one in orders:
            for other in orders:
                alike = one[0] == other[0] and table_of(one) == table_of(other)
                self.assertEqual(alike, one == other)

    def test_exactly_these_are_tables(self):
        for many in range(0, 5):
            letters = NAMES[:many]
            tables = {table_of(order): order for order in orders_of(letters) if order[0] == letters}
            for scheme in all_schemes(many):
                same(self, is_scheme(scheme), True)
                same(self, is_table(scheme), scheme in tables)
                if scheme in tables:
                    same(self, order_of(letters, scheme), tables[scheme])

    def test_one_wrong_number_in_large_tables(self):
        for order in some_orders(4, 10, 12, 12):
            table = table_of(order)
            for i, j in combinations(range(12), 2):
                for number in (1, 2, 3):
                    rows = [list(row) for row in table]
                    rows[i][j] = rows[j][i] = number
                    changed = tuple(tuple(row) for row in rows)
                    wanted = scheme_of((order[0], tuple(rows[k][k + 1] for k in range(11))), order[0]) == changed
                    same(self, is_scheme(changed), True)
                    same(self, is_table(changed), wanted)

    def test_wrong_forms(self):
        for value in WRONG_FORMS:
            same(self, is_scheme(value), False)
            same(self, is_table(value), False)

    def test_any_number_of_rows(self):
        for many in range(0, 15):
            for number in (1, 2, 3):
                value = tuple(tuple(4 if i == j else number for j in range(many)) for i in range(many))
                same(self, is_scheme(value), many <= 12)
                same(self, is_table(value), many <= 12)

    def test_each_place_of_a_large_scheme(self):
        right = tuple(row[:12] for row in ALL_ONES[:12])
        for i in range(12):
            for j in range(12):
                for number in (0, 1, 2, 3, 4, 5, True, None, "1"):
                    rows = [list(row) for row in right]
                    rows[i][j] = number
                    changed = tuple(tuple(row) for row in rows)
                    same(self, is_scheme(changed), repr(changed) == repr(right))


class Schemes(unittest.TestCase):
    def test_small_schemes_against_all_orders(self):
        for many in range(0, 5):
            letters = ("c", "a", "d", "b")[:many]
            orders = fitting_orders(letters)
            for scheme in all_schemes(many):
                fitting = orders.get(scheme, [])
                same(self, count_orders(scheme), len(fitting))
                same(self, first_order(letters, scheme), fitting[0] if fitting else None)
                same(self, clash(scheme), reckoned_clash(scheme))
                self.assertEqual(clash(scheme) is None, bool(fitting))

    def test_five_rows(self):
        orders = fitting_orders(("e", "d", "c", "b", "a"))
        for scheme, fitting in orders.items():
            same(self, count_orders(scheme), len(fitting))
            same(self, first_order(("e", "d", "c", "b", "a"), scheme), fitting[0])
            same(self, clash(scheme), None)
        for scheme in list(all_schemes(5))[::97]:
            same(self, clash(scheme), reckoned_clash(scheme))
            same(self, count_orders(scheme), len(orders.get(scheme, [])))

    def test_fits(self):
        for many in range(0, 4):
            orders = list(orders_of(("a", "b", "c")[:many]))
            for letters in permutations(("a", "b", "c")[:many]):
                for scheme in all_schemes(many):
                    for order in orders:
                        same(self, fits(order, letters, scheme), scheme_of(order, letters) == scheme)

    def test_fits_needs_just_these_letters(self):
        scheme = ((4, 2), (2, 4))
        same(self, fits((("a", "b"), (2,)), ("b", "a"), scheme), True)
        same(self, fits((("a", "b", "c"), (2, 2)), ("a", "b"), scheme), False)
        same(self, fits((("a",), ()), ("a", "b"), scheme), False)
        same(self, fits((("a", "c"), (2,)), ("a", "b"), scheme), False)
        same(self, fits(((), ()), (), ()), True)
        same(self, fits((("a",), ()), (), ()), False)
        same(self, fits(((), ()), ("a",), ((4,),)), False)
        same(self, fits((("a",), ()), ("b",), ((4,),)), False)

    def test_large_schemes(self):
        for order in some_orders(5, 60, 6, 12):
            letters = tuple(sorted(order[0], key=lambda x: (ord(x) * 7) % 13))
            scheme = scheme_of(order, letters)
            same(self, fits(order, letters, scheme), True)
            same(self, clash(scheme), None)
            found = first_order(letters, scheme)
            same(self, fits(found, letters, scheme), True)
            indexes = [letters.index(letter) for letter in found[0]]
            self.assertLessEqual(indexes, [letters.index(letter) for letter in order[0]])
            self.assertEqual(indexes[0], 0)

    def test_first_order_of_nested_groups(self):
        order = (tuple("agcbfed"), (3, 2, 1, 3, 1, 2))
        letters = ("g", "f", "e", "d", "c", "b", "a")
        wanted = (tuple("gacfbed"), (3, 2, 1, 3, 1, 2))
        same(self, first_order(letters, scheme_of(order, letters)), wanted)

    def test_count_of_large_schemes(self):
        for many in range(0, 13):
            for number in (1, 2, 3):
                scheme = tuple(tuple(4 if i == j else number for j in range(many)) for i in range(many))
                same(self, count_orders(scheme), factorial(many))
                same(self, first_order(NAMES[:many], scheme), (NAMES[:many], (number,) * max(many - 1, 0)))
        # Two groups of level 1 of six letters; in each of them three of level 2 of two letters.
        order = (TWELVE, (3, 2, 3, 2, 3, 1, 3, 2, 3, 2, 3))
        same(self, count_orders(table_of(order)), 2 * 6 ** 2 * 2 ** 6)

    def test_first_clash_of_a_large_scheme(self):
        rows = [[4 if i == j else 2 for j in range(12)] for i in range(12)]
        rows[9][11] = rows[11][9] = 1
        scheme = tuple(tuple(row) for row in rows)
        same(self, clash(scheme), (0, 9, 11))
        same(self, first_order(TWELVE, scheme), None)
        same(self, count_orders(scheme), 0)

    def test_least_number_counts(self):
        same(self, clash(((4, 1, 1), (1, 4, 3), (1, 3, 4))), None)
        same(self, clash(((4, 1, 3), (1, 4, 3), (3, 3, 4))), (0, 1, 2))


class WrongArguments(unittest.TestCase):
    def test_each_function(self):
        order = ("order", (("a", "c", "b"), (2, 1)), WRONG_ORDERS)
        letters = ("letters", ("a", "b", "c"), WRONG_TUPLES)
        sizes = ((), ((4,),), ((4, 1), (1, 4)), tuple(row[:4] for row in ALL_ONES[:4]))
        scheme = ("scheme", GOOD, WRONG_FORMS + sizes)
        table = ("table", ((4, 1, 1), (1, 4, 2), (1, 2, 4)), WRONG_FORMS + sizes + (GOOD, CLASHING))
        assert_bad_values(self, table_of, [order])
        assert_bad_values(self, order_of, [letters, table])
        assert_bad_values(self, fits, [order, letters, scheme])
        assert_bad_values(self, first_order, [letters, scheme])
        assert_bad_values(self, clash, [("scheme", GOOD, WRONG_FORMS)])
        assert_bad_values(self, count_orders, [("scheme", GOOD, WRONG_FORMS)])

    def test_thirteen_letters(self):
        assert_bad_values(self, first_order, [("letters", ("a",), (THIRTEEN,)), ("scheme", ((4,),), (ALL_ONES,))])


class Printed(unittest.TestCase):
    def test_interface(self):
        assert_printed(self, '''
>>> from fewestrules.tables import clash, count_orders, first_order, fits, is_table, order_of, table_of
>>> table_of((("a", "b", "c"), (2, 1)))
((4, 2, 1), (2, 4, 1), (1, 1, 4))
>>> order_of(("x", "y", "z"), ((4, 2, 1), (2, 4, 1), (1, 1, 4)))
(('x', 'y', 'z'), (2, 1))
>>> scheme = ((4, 1, 2), (1, 4, 1), (2, 1, 4))
>>> is_table(scheme), first_order(("x", "y", "z"), scheme), count_orders(scheme)
(False, (('x', 'z', 'y'), (2, 1)), 4)
>>> clash(((4, 1, 2), (1, 4, 3), (2, 3, 4))), fits((("z", "x", "y"), (2, 1)), ("x", "y", "z"), scheme)
((0, 1, 2), True)
''')
