"""Points 2 and 90 to 98: the words that stay, covers, and the judge of both."""

import random
import unittest
from itertools import combinations

from fewestrules.effects import moved_in
from fewestrules.errors import NotApplicable
from fewestrules.staying import accepts_staying, cover_for, staying
from tests.helpers import (NAMES, OTHER_VALUES, TWELVE, WRONG_LEVELS, WRONG_ORDERS, WRONG_RULE_LISTS,
                           WRONG_TUPLES_OF_WORDS, assert_bad_value, assert_bad_values, assert_printed, put_behind,
                           reckoned_compare, reckoned_led, same, short_words, some_changes, some_order, some_orders,
                           some_rules, some_word, some_words)

ORDER = (("a", "b", "c"), (1, 1))
RULES = (("before", "a", 1, "c"),)
WORDS = (("a",), ("b",), ("c",), ("b", "a"))
KEPT = (0, 1, 3)
COVER = ((0, 2), (1,), (3,))
FULL = (TWELVE, (1, 2, 3, 1, 2, 3, 1, 2, 3, 1, 2))
EMPTY = ((), ())
LEVELS = (1, 2, 3)
ONES = tuple((letter,) for letter in TWELVE)


class Reckoned:
    """The sorted words, and what comparing gives by the new order, word by word as the document tells it."""

    def __init__(self, order, rules, words, level):
        after = reckoned_led(order, rules)
        many = len(words)
        self.indexes = []
        for index in range(many):
            ahead = [other for other in self.indexes
                     if reckoned_compare(order, words[other], words[index], level) <= 0]
            self.indexes.insert(len(ahead), index)
        self.after = [[reckoned_compare(after, one, other, level) for other in words] for one in words]

    def parts(self):
        """All parts of the sorted words."""
        for many in range(len(self.indexes) + 1):
            yield from combinations(self.indexes, many)

    def stays(self, part):
        return not any(self.after[other][one] < 0 for one, other in combinations(part, 2))

    def places(self, part):
        return [self.indexes.index(index) for index in part]

    def best(self):
        """The part that point 92 tells, found among all parts."""
        parts = [part for part in self.parts() if self.stays(part)]
        most = max(len(part) for part in parts)
        return min([part for part in parts if len(part) == most], key=self.places)

    def is_part(self, value):
        places = self.places(value)
        return places == sorted(set(places))

    def is_cover(self, value):
        if sorted(index for part in value for index in part) != sorted(self.indexes):
            return False
        for part in value:
            if not self.is_part(part) or not all(self.after[y][x] < 0 for x, y in zip(part, part[1:])):
                return False
        return True

    def accepts(self, kept, cover):
        """Point 95 for tuples of indexes."""
        return self.is_part(kept) and self.stays(kept) and self.is_cover(cover) and len(kept) == len(cover)

    def told_cover(self):
        """Point 94 sentence by sentence."""
        heights = {}
        for at, index in enumerate(self.indexes):
            ahead = [heights[other] for other in self.indexes[:at] if self.after[other][index] <= 0]
            heights[index] = 1 + max(ahead) if ahead else 1
        most = max(heights.values(), default=0)
        return tuple(tuple(index for index in self.indexes if heights[index] == height)
                     for height in range(1, most + 1))


class Staying(unittest.TestCase):
    def test_against_all_parts_of_few_words(self):
        sizes = set()
        for order, rules, words, level in some_changes(170, 220, 7):
            wanted = Reckoned(order, rules, words, level).best()
            same(self, staying(order, rules, words, level), wanted)
            sizes.add((len(words), len(wanted)))
        self.assertGreater(len(sizes), 15)

    def test_against_all_parts_of_twelve_words(self):
        chance = random.Random(171)
        for turn in range(12):
            order = some_order(chance, NAMES, 4 + turn % 9)
            rules = some_rules(chance, order, 3)
            words = some_words(chance, order, 12)
            level = turn % 3 + 1
            same(self, staying(order, rules, words, level), Reckoned(order, rules, words, level).best())

    def test_sorted_words_are_named_by_their_indexes(self):
        words = (("c",), ("a",), ("b",), ("a", "a"))
        same(self, staying(ORDER, (), words, 1), (1, 3, 2, 0))
        same(self, staying(ORDER, RULES, words, 1), (1, 3, 2))
        same(self, cover_for(ORDER, (), words, 1), ((1,), (3,), (2,), (0,)))
        same(self, cover_for(ORDER, RULES, words, 1), ((1, 0), (3,), (2,)))

    def test_equal_words(self):
        weak = (("a", "b", "c"), (2, 3))
        words = (("b",), ("a",), ("c",), ("a",), ("b", "c"))
        turned_round = (("before", "a", 2, "c"), ("before", "a", 2, "b"))
        same(self, reckoned_led(weak, turned_round), (("c", "b", "a"), (2, 2)))
        # At the level 1 all of one letter are equal before and after: the lesser index stands first, and all stay.
        same(self, staying(weak, turned_round, words, 1), (0, 1, 2, 3, 4))
        same(self, cover_for(weak, turned_round, words, 1), ((0,), (1,), (2,), (3,), (4,)))
        # At the level 2 a comes before b and c, which are equal, and c before b before a by the new order.
        same(self, staying(weak, turned_round, words, 2), (1, 3, 4))
        same(self, cover_for(weak, turned_round, words, 2), ((1, 0, 2), (3,), (4,)))
        same(self, staying(weak, turned_round, words, 3), (1, 3, 4))
        same(self, staying(weak, (), (("b",),) * 12, 2), tuple(range(12)))
        same(self, staying(weak, turned_round, (("b",),) * 12, 2), tuple(range(12)))

    def test_words_that_become_equal_stay_and_words_that_were_equal_may_not(self):
        order = (("a", "b"), (1,))
        same(self, staying(order, (("after", "a", 3, "b"),), (("b",), ("a",)), 2), (1, 0))
        same(self, cover_for(order, (("after", "a", 3, "b"),), (("b",), ("a",)), 2), ((1,), (0,)))
        order = (("a", "b"), (3,))
        same(self, staying(order, (("before", "a", 1, "b"),), (("a",), ("b",)), 2), (0,))
        same(self, cover_for(order, (("before", "a", 1, "b"),), (("a",), ("b",)), 2), ((0, 1),))

    def test_the_part_whose_word_stands_earlier_in_the_sorted_words(self):
        # Sorted: c, a, b as indexes 2, 0, 1; by the new order b comes before a, so c and a stay, or c and b.
        order = (("c", "a", "b"), (1, 1))
        words = (("a",), ("b",), ("c",))
        same(self, staying(order, (("after", "c", 1, "b"),), words, 1), (2, 0))
        # By the new order c comes last: only a and b can stay together.
        same(self, staying(order, (("after", "b", 1, "c"),), words, 1), (0, 1))
        # All are turned round: the first of the sorted words stays, although its index is not the least one.
        rules = (("before", "c", 1, "a"), ("before", "a", 1, "b"))
        same(self, reckoned_led(order, rules), (("b", "a", "c"), (1, 1)))
        same(self, staying(order, rules, words, 1), (2,))
        same(self, cover_for(order, rules, words, 1), ((2, 0, 1),))

    def test_no_words(self):
        for level in LEVELS:
            for order, rules in ((ORDER, RULES), (EMPTY, ()), (FULL, ())):
                same(self, staying(order, rules, (), level), ())
                same(self, cover_for(order, rules, (), level), ())
                same(self, accepts_staying(order, rules, (), level, (), ()), True)
                same(self, accepts_staying(order, rules, (), level, (), ((),)), False)
                same(self, accepts_staying(order, rules, (), level, (0,), ((0,),)), False)
        same(self, staying(EMPTY, (), ((), ()), 1), (0, 1))

    def test_twelve_words_of_twelve_letters(self):
        order = (TWELVE, (1,) * 11)
        backwards = tuple(("before", one, 1, other) for one, other in zip(TWELVE, TWELVE[1:]))
        for level in LEVELS:
            same(self, staying(order, (), ONES, level), tuple(range(12)))
            same(self, staying(order, backwards, ONES, level), (0,))
            same(self, cover_for(order, backwards, ONES, level), (tuple(range(12)),))
            same(self, staying(order, (("before", "a", 1, "l"),), ONES, level), tuple(range(11)))
            same(self, staying(order, backwards, ONES[::-1], level), (11,))


class Covers(unittest.TestCase):
    def test_the_heights(self):
        for order, rules, words, level in some_changes(172, 250):
            reckoned = Reckoned(order, rules, words, level)
            cover = cover_for(order, rules, words, level)
            same(self, cover, reckoned.told_cover())
            self.assertTrue(reckoned.is_cover(cover))

    def test_as_many_tuples_as_words_stay(self):
        sizes = set()
        for order, rules, words, level in some_changes(173, 250):
            kept, cover = staying(order, rules, words, level), cover_for(order, rules, words, level)
            same(self, len(cover), len(kept))
            same(self, accepts_staying(order, rules, words, level, kept, cover), True)
            sizes.add((len(kept), len(words)))
        self.assertGreater(len(sizes), 30)

    def test_no_part_that_stays_has_more_words_than_a_cover_has_tuples(self):
        for order, rules, words, level in some_changes(174, 60, 6):
            reckoned = Reckoned(order, rules, words, level)
            cover = cover_for(order, rules, words, level)
            for part in reckoned.parts():
                if reckoned.stays(part):
                    self.assertLessEqual(len(part), len(cover))
                    self.assertTrue(all(len(set(part) & set(row)) <= 1 for row in cover))


class Sentences(unittest.TestCase):
    def test_words_without_moved_letters_stay(self):
        chance = random.Random(175)
        for turn in range(150):
            order = some_order(chance, NAMES, 2 + turn % 11)
            rules = some_rules(chance, order, chance.choice((1, 2, 3, 5)))
            moved = moved_in(order, rules)
            letters = [letter for letter in order[0] if letter not in moved]
            words = tuple(some_word(chance, letters) for _ in range(turn % 13))
            for level in LEVELS:
                self.assert_all_stay(order, rules, words, level)

    def assert_all_stay(self, order, rules, words, level):
        indexes = Reckoned(order, rules, words, level).indexes
        same(self, staying(order, rules, words, level), tuple(indexes))
        same(self, cover_for(order, rules, words, level), tuple((index,) for index in indexes))

    def test_the_new_order_is_the_order(self):
        chance = random.Random(176)
        for order in some_orders(176, 60):
            words = some_words(chance, order, chance.randrange(13))
            for level in LEVELS:
                self.assert_all_stay(order, (), words, level)
        rules = (("before", "a", 1, "c"), ("after", "b", 1, "c"))
        same(self, reckoned_led(ORDER, rules), ORDER)
        for level in LEVELS:
            self.assert_all_stay(ORDER, rules, tuple(short_words(ORDER[0]))[:12], level)

    def test_a_new_letter_alone_changes_nothing(self):
        for order in some_orders(177, 44, 1, 11):
            words = tuple((letter,) for letter in order[0])
            rules = (("after", order[0][-1], 1, "z"),)
            same(self, reckoned_led(order, rules), put_behind(order, "z", 1))
            for level in LEVELS:
                self.assert_all_stay(order, rules, words, level)


def other_rows(row, many):
    """Tuples of indexes that differ from the row: an index less, more, twice, another one, another sequence."""
    for at in range(len(row)):
        yield row[:at] + row[at + 1:]
        yield row[:at] + row[at:at + 1] + row[at:]
        for index in range(many):
            yield row[:at] + (index,) + row[at + 1:]
    for at in range(len(row) + 1):
        for index in range(many):
            yield row[:at] + (index,) + row[at:]
    for at in range(len(row) - 1):
        yield row[:at] + (row[at + 1], row[at]) + row[at + 2:]
    yield row[::-1]
    yield ()


def other_covers(cover, many):
    """Tuples of tuples that differ from the cover."""
    for at, row in enumerate(cover):
        for other in other_rows(row, many):
            yield cover[:at] + (other,) + cover[at + 1:]
        yield cover[:at] + cover[at + 1:]
        yield cover[:at] + (row,) + cover[at:]
        yield cover[:at] + ((),) + cover[at:]
        for cut in range(1, len(row)):
            yield cover[:at] + (row[:cut], row[cut:]) + cover[at + 1:]
        for index in row:
            # One index goes over into each of the other tuples.
            for to in range(len(cover)):
                rows = [tuple(x for x in one if x != index) for one in cover]
                rows[to] += (index,)
                yield tuple(rows)
    for at in range(len(cover) - 1):
        yield cover[:at] + (cover[at] + cover[at + 1],) + cover[at + 2:]
        yield cover[:at] + (cover[at + 1], cover[at]) + cover[at + 2:]
    yield cover + ((),)
    yield cover[::-1]
    yield ()


class Judge(unittest.TestCase):
    def test_answers_with_each_part_changed(self):
        told = {True: 0, False: 0}
        for order, rules, words, level in some_changes(178, 40, 7):
            reckoned = Reckoned(order, rules, words, level)
            kept, cover = staying(order, rules, words, level), cover_for(order, rules, words, level)
            answers = [(row, cover) for row in other_rows(kept, len(words))]
            answers += [(kept, rows) for rows in other_covers(cover, len(words))]
            answers += [(kept[1:], cover[1:]), (kept[:-1], cover[:-1]), (kept + kept[:1], cover + cover[:1])]
            for row, rows in answers:
                wanted = reckoned.accepts(row, rows)
                same(self, accepts_staying(order, rules, words, level, row, rows), wanted)
                told[wanted] += 1
        self.assertGreater(told[True], 200)
        self.assertGreater(told[False], 2000)

    def test_all_parts_and_all_covers_of_three_words(self):
        rows = [()] + [(index,) for index in range(3)]
        rows += [(i, j) for i in range(3) for j in range(3)]
        rows += [(i, j, k) for i in range(3) for j in range(3) for k in range(3)]
        words, rules = (("b",), ("a",), ("c",)), (("before", "b", 1, "c"),)
        reckoned = Reckoned(ORDER, rules, words, 1)
        accepted = 0
        for kept in rows:
            for cover in [(), (kept,)] + [(one, other) for one in rows for other in rows[:13]]:
                wanted = reckoned.accepts(kept, cover)
                same(self, accepts_staying(ORDER, rules, words, 1, kept, cover), wanted)
                accepted += wanted
        # Kept a and b or a and c; the cover has a alone and b with c, in both sequences of the two.
        same(self, accepted, 4)

    def test_an_index_less_more_twice_or_elsewhere(self):
        same(self, accepts_staying(ORDER, RULES, WORDS, 1, KEPT, COVER), True)
        for kept in ((0, 1), (1, 3), (0, 3), (), (0, 1, 2, 3), (0, 0, 1, 3), (0, 1, 1), (0, 1, 3, 3), (0, 3, 1),
                     (1, 0, 3),
                     (0, 1, 2), (0, 1, 4), (0, 1, -1), (2, 1, 3), (3, 1, 0)):
            same(self, accepts_staying(ORDER, RULES, WORDS, 1, kept, COVER), False)
        for cover in (((0, 2), (1,)), ((0,), (1,), (3,)), ((0, 2), (1, 1), (3,)), ((0, 2), (1,), (3,), (3,)),
                      ((2, 0), (1,), (3,)), ((0, 2), (1, 3)), ((0, 2), (1,), (3,), ()), ((0,), (2,), (1,), (3,)),
                      ((0, 1), (2,), (3,)), ((0, 2), (1,), (4,)), ((0, 2), (1,), (-1,)), ((0, 2), (1,), (3, 4)), (),
                      ((0, 2, 1), (3,), ()), ((0, 1, 2, 3),), ((0, 2), (0,), (1,), (3,))):
            same(self, accepts_staying(ORDER, RULES, WORDS, 1, KEPT, cover), False)
        for cover in (((0,), (1, 2), (3,)), ((0,), (1,), (3, 2)), ((3,), (1,), (0, 2))):
            same(self, accepts_staying(ORDER, RULES, WORDS, 1, KEPT, cover), True)

    def test_true_and_false_are_no_indexes(self):
        for kept in ((False, 1, 3), (0, True, 3), (0, 1.0, 3), ("0", 1, 3), (None, 1, 3), ((0,), 1, 3), (0, 1, [3])):
            same(self, accepts_staying(ORDER, RULES, WORDS, 1, kept, COVER), False)
        for cover in (((False, 2), (1,), (3,)), ((0, 2), (True,), (3,)), ((0, 2), (1.0,), (3,)), ((0, "2"), (1,), (3,)),
                      ((0, 2), (None,), (3,)), ((0, 2), ([1],), (3,)), ((0, 2), ((1,),), (3,))):
            same(self, accepts_staying(ORDER, RULES, WORDS, 1, KEPT, cover), False)

    def test_every_value(self):
        values = OTHER_VALUES + (list(KEPT), {0: 1}, "013", list(COVER), [(0, 2), (1,), (3,)], ([0, 2], [1], [3]),
                                 ((0, 2), [1], (3,)), ((0, 2), 1, 3), ((0, 2), None, (3,)), ("02", "1", "3"),
                                 (KEPT, COVER))
        for value in values:
            same(self, accepts_staying(ORDER, RULES, WORDS, 1, value, COVER), False)
            same(self, accepts_staying(ORDER, RULES, WORDS, 1, KEPT, value), False)
            if value not in ((), [], {}):
                same(self, accepts_staying(ORDER, RULES, (), 1, value, ()), False)
                same(self, accepts_staying(ORDER, RULES, (), 1, (), value), False)

    def test_another_change_has_other_answers(self):
        same(self, accepts_staying(ORDER, (), WORDS, 1, KEPT, COVER), False)
        same(self, accepts_staying(ORDER, RULES, WORDS[::-1], 1, KEPT, COVER), False)


class WrongArguments(unittest.TestCase):
    def functions(self):
        """Each function with its first four arguments alone."""
        yield staying
        yield cover_for
        for kept, cover in ((KEPT, COVER), (None, True), ((), ())):
            yield lambda order, rules, words, level: accepts_staying(order, rules, words, level, kept, cover)

    def test_each_function(self):
        arguments = [("order", ORDER, WRONG_ORDERS), ("rules", RULES, WRONG_RULE_LISTS),
                     ("words", WORDS, WRONG_TUPLES_OF_WORDS), ("level", 1, WRONG_LEVELS)]
        for function in self.functions():
            assert_bad_values(self, function, arguments)

    def test_not_applicable(self):
        for order, rules, index, why in ((EMPTY, RULES, 0, "anchor"), (FULL, (("after", "a", 1, "m"),), 0, "full"),
                                         (FULL, (("after", "n", 1, "m"),), 0, "anchor"),
                                         (ORDER, RULES * 19 + (("after", "z", 1, "a"),), 19, "anchor"),
                                         (FULL, RULES + (("after", "b", 2, "m"),), 1, "full")):
            for function in self.functions():
                with self.assertRaises(NotApplicable) as caught:
                    function(order, rules, (), 1)
                same(self, (caught.exception.index, caught.exception.why), (index, why))

    def test_bad_value_comes_before_not_applicable(self):
        wrong = (("after", "z", 1, "a"),)
        for function in self.functions():
            assert_bad_value(self, "order", function, ((("a",), (1,)), wrong, WORDS, 1))
            assert_bad_value(self, "rules", function, (ORDER, wrong + (None,), WORDS, 1))
            assert_bad_value(self, "words", function, (ORDER, wrong, (("z",),), 1))
            assert_bad_value(self, "level", function, (ORDER, wrong, WORDS, 0))

    def test_words_of_the_new_order_alone(self):
        rules = (("after", "a", 1, "d"),)
        for function in self.functions():
            assert_bad_value(self, "words", function, (ORDER, rules, (("d",),), 1))


class Printed(unittest.TestCase):
    def test_point_98(self):
        same(self, reckoned_led(ORDER, RULES), (("c", "a", "b"), (1, 1)))

    def test_interface(self):
        assert_printed(self, '''
>>> from fewestrules.effects import changed_pairs, moved_in
>>> from fewestrules.staying import accepts_staying, cover_for, staying
>>> order, rules = (("a", "b", "c"), (1, 1)), (("before", "a", 1, "c"),)
>>> words = (("a",), ("b",), ("c",), ("b", "a"))
>>> changed_pairs(order, rules, words, 1), moved_in(order, rules)
([(0, 2), (1, 2), (2, 3)], ('c',))
>>> staying(order, rules, words, 1), cover_for(order, rules, words, 1)
((0, 1, 3), ((0, 2), (1,), (3,)))
>>> accepts_staying(order, rules, words, 1, (0, 1, 3), ((0,), (1, 2), (3,)))
True
>>> accepts_staying(order, rules, words, 1, (0, 1), ((0,), (1, 2), (3,)))
False
''')
