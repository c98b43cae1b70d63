"""Points 2, 5, 6, 9 to 12, 18 and 19: letters and orders."""

import unittest
from itertools import combinations

from fewestrules.orders import difference, group_of, groups, is_letter, is_order, reversed_order, without
from tests.helpers import (NAMES, THIRTEEN, TWELVE, WRONG_LETTERS, WRONG_LEVELS, WRONG_ORDERS, WRONG_TUPLES,
                           assert_bad_values, assert_printed, orders_within, reckoned_difference, same, some_orders,
                           turned)

ORDER = (("a", "b", "c", "d"), (2, 1, 3))
FOREIGN = WRONG_LETTERS + ("z", "aa")


def tried_orders():
    yield from orders_within(("a", "b", "c"))
    yield from some_orders(1, 120)


class Letters(unittest.TestCase):
    def test_each_character(self):
        for number in range(0, 400):
            sign = chr(number)
            same(self, is_letter(sign), "a" <= sign <= "z")
            same(self, is_letter("a" + sign), "a" <= sign <= "z" or "0" <= sign <= "9")
            same(self, is_letter("a" + sign + "9"), "a" <= sign <= "z" or "0" <= sign <= "9")

    def test_one_to_twelve_characters(self):
        for many in range(0, 16):
            same(self, is_letter("x" * many), 1 <= many <= 12)
            same(self, is_letter("x" + "7" * many), many <= 11)

    def test_wrong_letters(self):
        for value in WRONG_LETTERS + (1.5, {}, {"a": 1}, {"a"}, object(), "a" * 100000):
            same(self, is_letter(value), False)


class Forms(unittest.TestCase):
    def test_any_number_of_letters(self):
        for many in range(0, 15):
            for strength in (1, 2, 3):
                order = (NAMES[:many], (strength,) * max(many - 1, 0))
                same(self, is_order(order), many <= 12)

    def test_strengths(self):
        for strength in (0, 1, 2, 3, 4, -1, 10, True, False, None, "1", "", (1,), [1], 1.0, 2.5):
            wanted = not isinstance(strength, (bool, float)) and strength in (1, 2, 3)
            same(self, is_order((("a", "b"), (strength,))), wanted)
            for place in range(11):
                strengths = (1,) * place + (strength,) + (3,) * (10 - place)
                same(self, is_order((TWELVE, strengths)), wanted)

    def test_strengths_are_one_fewer(self):
        for many in range(0, 13):
            for also in range(0, 14):
                same(self, is_order((NAMES[:many], (2,) * also)), also == max(many - 1, 0))

    def test_letters_twice(self):
        for one, other in combinations(range(12), 2):
            letters = list(TWELVE)
            letters[other] = letters[one]
            same(self, is_order((tuple(letters), (1,) * 11)), False)

    def test_a_letter_of_another_form(self):
        for wrong in WRONG_LETTERS:
            for place in range(3):
                letters = ["x", "y", "z"]
                letters[place] = wrong
                same(self, is_order((tuple(letters), (1, 1))), False)

    def test_wrong_orders(self):
        for value in WRONG_ORDERS + (1.5, {}, {"a"}, object(), (("a", {}), (1,)), (("a", {"b"}), (1,))):
            same(self, is_order(value), False)
        same(self, is_order((THIRTEEN, (1,) * 12)), False)


class Differences(unittest.TestCase):
    def test_of_each_two_letters(self):
        for order in tried_orders():
            for one in order[0]:
                for other in order[0]:
                    found = difference(order, one, other)
                    same(self, found, reckoned_difference(order, one, other))
                    same(self, difference(order, other, one), found)
                same(self, difference(order, one, one), 4)

    def test_of_three_letters_in_sequence(self):
        for order in tried_orders():
            for x, y, z in combinations(order[0], 3):
                lesser = min(difference(order, x, y), difference(order, y, z))
                self.assertEqual(difference(order, x, z), lesser)


class Groups(unittest.TestCase):
    def test_of_the_order_without_letters(self):
        for level in (1, 2, 3):
            same(self, groups(((), ()), level), [])

    def test_same_group_exactly_if_the_difference_is_greater(self):
        for order in tried_orders():
            for level in (1, 2, 3):
                rows = groups(order, level)
                same(self, [letter for row in rows for letter in row], list(order[0]))
                self.assertTrue(all(isinstance(row, tuple) and row for row in rows))
                for one in order[0]:
                    wanted = tuple(x for x in order[0] if reckoned_difference(order, one, x) > level)
                    same(self, group_of(order, one, level), wanted)
                    self.assertIn(wanted, rows)

    def test_levels(self):
        for order in tried_orders():
            same(self, groups(order, 3), [(letter,) for letter in order[0]])
            for level in (2, 3):
                for row in groups(order, level):
                    self.assertTrue(any(set(row) <= set(wide) for wide in groups(order, level - 1)))

    def test_a_changed_list_changes_no_later_answer(self):
        for order in (ORDER, ((), ()), (("a",), ())):
            for level in (1, 2, 3):
                wanted = repr(groups(order, level))
                row = groups(order, level)
                row.append(("z",))
                row[0] = ()
                row.reverse()
                self.assertEqual(repr(groups(order, level)), wanted)
                self.assertIsNot(groups(order, level), groups(order, level))


class TakingOut(unittest.TestCase):
    def assert_taken_out(self, order, letters):
        found = without(order, letters)
        self.assertTrue(is_order(found))
        same(self, found[0], tuple(x for x in order[0] if x not in letters))
        for one in found[0]:
            for other in found[0]:
                self.assertEqual(reckoned_difference(found, one, other), reckoned_difference(order, one, other))

    def test_each_part_of_small_orders(self):
        for order in orders_within(("a", "b", "c", "d")):
            for many in range(len(order[0]) + 1):
                for part in combinations(order[0], many):
                    self.assert_taken_out(order, part)

    def test_together_and_one_by_one(self):
        for turn, order in enumerate(some_orders(2, 150)):
            letters = order[0][turn % 3::2] + order[0][:turn % 2]
            letters = tuple(dict.fromkeys(letters))
            self.assert_taken_out(order, letters)
            for sequence in (letters, letters[::-1], letters[1:] + letters[:1]):
                left = order
                for letter in sequence:
                    left = without(left, (letter,))
                same(self, left, without(order, letters))
                same(self, without(order, sequence), left)

    def test_letters_that_the_order_does_not_contain(self):
        same(self, without(ORDER, ("x", "y")), ORDER)
        same(self, without(ORDER, ("x", "b", "y")), (("a", "c", "d"), (1, 3)))
        same(self, without(((), ()), TWELVE), ((), ()))
        same(self, without(ORDER, NAMES[1:13]), (("a",), ()))

    def test_no_letters_and_all_letters(self):
        for order in tried_orders():
            same(self, without(order, ()), order)
            same(self, without(order, order[0]), ((), ()))
            same(self, without(order, order[0][::-1]), ((), ()))

    def test_reversed(self):
        for order in tried_orders():
            found = reversed_order(order)
            same(self, found, turned(order))
            same(self, reversed_order(found), order)
            for one in order[0]:
                for other in order[0]:
                    self.assertEqual(difference(found, one, other), difference(order, one, other))


class WrongArguments(unittest.TestCase):
    def test_each_function(self):
        order = ("order", ORDER, WRONG_ORDERS)
        level = ("level", 2, WRONG_LEVELS)
        letter = ("letter", "b", FOREIGN)
        assert_bad_values(self, difference, [order, ("first", "a", FOREIGN), ("second", "d", FOREIGN)])
        assert_bad_values(self, groups, [order, level])
        assert_bad_values(self, group_of, [order, letter, level])
        assert_bad_values(self, without, [order, ("letters", ("a",), WRONG_TUPLES)])
        assert_bad_values(self, reversed_order, [order])

    def test_the_order_without_letters_has_no_letter(self):
        empty = ((), ())
        assert_bad_values(self, lambda first: difference(empty, first, "a"), [("first", "", FOREIGN + ("a",))])
        assert_bad_values(self, lambda letter: group_of(empty, letter, 1), [("letter", "", FOREIGN + ("a",))])


class Printed(unittest.TestCase):
    def test_point_19(self):
        order = (("a", "b", "c"), (2, 1))
        same(self, difference(order, "a", "c"), 1)
        same(self, groups(order, 1), [("a", "b"), ("c",)])

    def test_interface(self):
        assert_printed(self, '''
>>> from fewestrules.orders import difference, group_of, groups, reversed_order, without
>>> order = (("a", "b", "c", "d"), (2, 1, 3))
>>> difference(order, "b", "d"), difference(order, "c", "c")
(1, 4)
>>> groups(order, 1), groups(order, 2), group_of(order, "d", 2)
([('a', 'b'), ('c', 'd')], [('a',), ('b',), ('c', 'd')], ('c', 'd'))
>>> without(order, ("b", "z")), reversed_order(order)
((('a', 'c', 'd'), (1, 3)), (('d', 'c', 'b', 'a'), (3, 1, 2)))
''')
