"""Stages and operators (points 6 to 11)."""

import unittest

from calling import called, check_form
from counting import (
    less_by_counting,
    near_by_counting,
    sittings_by_counting,
    staged_by_counting,
    starts_by_counting,
    windows_by_counting,
    without_by_counting,
)
from drawn import AGGREGATES, COMBINATIONS, COMPARISONS, MANY_DIGITS, drawings
from tidefold.operators import less, near, once, sittings, staged, window_starts, windows, without


def values_of(changes):
    return [row[2] for row, _ in changes]


class Staged(unittest.TestCase):
    def test_every_comparison_below_at_and_above_its_bound(self):
        passing = {"<": [2], "<=": [2, 3], "=": [3], "!=": [2, 4], ">=": [3, 4], ">": [4]}
        for comparison, values in passing.items():
            for moved in (0, -3, -5, MANY_DIGITS):
                bag = [((0, "a", value + moved), 1) for value in (2, 3, 4)]
                found = called(self, staged, ("sift", comparison, 3 + moved), bag)
                self.assertEqual(values_of(found), [value + moved for value in values])

    def test_only(self):
        bag = [((0, "a", 1), 1), ((0, "ab", 2), -2), ((0, "b", 3), 3), ((1, "a", 4), 4)]
        self.assertEqual(called(self, staged, ("only", ("a",)), bag), [bag[0], bag[3]])
        self.assertEqual(called(self, staged, ("only", ("ab", "b")), bag), bag[1:3])
        self.assertEqual(called(self, staged, ("only", ("aa", "abc", "c")), bag), [])

    def test_rekey_puts_rows_in_order_and_adds_those_that_become_equal(self):
        bag = [((0, "a", 5), 2), ((0, "b", 5), 3), ((0, "c", 1), 1), ((1, "a", 5), 1)]
        expected = [((0, "k", 1), 1), ((0, "k", 5), 5), ((1, "k", 5), 1)]
        self.assertEqual(called(self, staged, ("rekey", "k"), bag), expected)

    def test_counts_that_add_up_to_0_are_left_out(self):
        changes = [((0, "a", 5), 2), ((0, "b", 5), -2), ((0, "c", 5), 1)]
        self.assertEqual(called(self, staged, ("rekey", "k"), changes), [((0, "k", 5), 1)])
        changes = [((0, "a", 1), -2), ((0, "a", 2), -3), ((1, "a", 1), 1), ((1, "a", 2), -1)]
        self.assertEqual(called(self, staged, ("scale", 0), changes), [((0, "a", 0), -5)])

    def test_scale_by_a_negative_factor_turns_the_order(self):
        changes = [((0, "a", -1), 1), ((0, "a", 2), -2), ((0, "b", 7), 1)]
        expected = [((0, "a", -6), -2), ((0, "a", 3), 1), ((0, "b", -21), 1)]
        self.assertEqual(called(self, staged, ("scale", -3), changes), expected)

    def test_later(self):
        changes = [((-5, "a", 1), 1), ((0, "a", 1), -1)]
        expected = [((2, "a", 1), 1), ((7, "a", 1), -1)]
        self.assertEqual(called(self, staged, ("later", 7), changes), expected)
        self.assertEqual(called(self, staged, ("later", 0), changes), changes)

    def test_nothing(self):
        for stage in (("sift", "<", 0), ("only", ("a",)), ("rekey", "a"), ("scale", 0), ("later", 3)):
            self.assertEqual(called(self, staged, stage, []), [])

    def test_drawn_changes(self):
        words = {}
        for drawing in drawings(1500, 4200):
            stage = drawing.stage()
            words[stage[0]] = words.get(stage[0], 0) + 1
            changes = drawing.pick(drawing.changes, drawing.bag)(8)
            found = called(self, staged, stage, changes)
            check_form(self, found)
            self.assertEqual(found, staged_by_counting(stage, changes))
        self.assertTrue(all(words[word] > 100 for word in ("sift", "only", "rekey", "scale", "later")))

    def test_drawn_sifts_at_the_values_of_the_rows(self):
        for drawing in drawings(400, 4300):
            changes = drawing.changes(8)
            for comparison in COMPARISONS:
                for value in values_of(changes)[:3]:
                    stage = ("sift", comparison, value)
                    self.assertEqual(called(self, staged, stage, changes), staged_by_counting(stage, changes))


class WindowStarts(unittest.TestCase):
    def test_ordinary_windows(self):
        self.assertEqual(called(self, window_starts, 8, 10, 5), [0, 5])
        self.assertEqual(window_starts(5, 5, 5), [5])
        self.assertEqual(window_starts(4, 5, 5), [0])
        self.assertEqual(window_starts(9, 10, 5), [0, 5])
        self.assertEqual(window_starts(10, 10, 5), [5, 10])

    def test_times_below_0(self):
        self.assertEqual(window_starts(-1, 5, 5), [-5])
        self.assertEqual(window_starts(-5, 5, 5), [-5])
        self.assertEqual(window_starts(-6, 5, 5), [-10])
        self.assertEqual(window_starts(0, 10, 5), [-5, 0])
        self.assertEqual(window_starts(-1, 3, 1), [-3, -2, -1])

    def test_a_slide_that_is_greater_than_the_size(self):
        self.assertEqual([window_starts(time, 2, 5) for time in range(-6, 3)], [
            [], [-5], [-5], [], [], [], [0], [0], []
        ])

    def test_a_size_that_is_no_multiple_of_the_slide(self):
        self.assertEqual(window_starts(6, 5, 3), [3, 6])
        self.assertEqual(window_starts(7, 5, 3), [3, 6])
        self.assertEqual(window_starts(8, 5, 3), [6])

    def test_all_small_windows(self):
        for size in range(1, 12):
            for slide in range(1, 12):
                for time in range(-15, 16):
                    found = called(self, window_starts, time, size, slide)
                    self.assertEqual(found, starts_by_counting(time, size, slide))

    def test_times_of_many_digits(self):
        for drawing in drawings(300, 4350):
            time = drawing.pick(1, -1) * drawing.random.randrange(10 ** 60)
            size = drawing.random.randint(1, 100)
            slide = drawing.random.randint(1, 100)
            self.assertEqual(called(self, window_starts, time, size, slide), starts_by_counting(time, size, slide))

    def test_the_greatest_sizes_and_slides(self):
        self.assertEqual(window_starts(-1, 1000, 1000), [-1000])
        self.assertEqual(window_starts(999, 1000, 100), list(range(0, 1000, 100)))
        self.assertEqual(window_starts(1, 1, 1000), [])


class Windows(unittest.TestCase):
    def test_the_example_of_the_interface(self):
        bag = [((1, "x", 4), 1), ((8, "x", -2), 2)]
        expected = [((4, "x", 4), 1), ((9, "x", 0), 1), ((14, "x", -4), 1)]
        self.assertEqual(called(self, windows, bag, 10, 5, "sum"), expected)

    def test_every_aggregate(self):
        bag = [((0, "x", 4), 2), ((1, "x", -3), 5), ((2, "x", 9), 1), ((3, "y", 1), 1)]
        for aggregate, worth in (("count", 8), ("sum", 2), ("least", -3), ("greatest", 9)):
            expected = [((3, "x", worth), 1), ((3, "y", 1), 1)]
            self.assertEqual(called(self, windows, bag, 4, 4, aggregate), expected)

    def test_a_sum_of_0_is_there(self):
        bag = [((0, "x", 3), 1), ((1, "x", -3), 1)]
        self.assertEqual(windows(bag, 5, 5, "sum"), [((4, "x", 0), 1)])

    def test_rows_in_no_window(self):
        bag = [((2, "x", 1), 1), ((4, "x", 1), 1)]
        self.assertEqual(called(self, windows, bag, 2, 5, "count"), [])
        self.assertEqual(called(self, windows, [], 5, 5, "count"), [])

    def test_windows_without_rows_are_not_there(self):
        bag = [((0, "x", 1), 1), ((100, "x", 1), 1)]
        self.assertEqual(called(self, windows, bag, 5, 5, "count"), [((4, "x", 1), 1), ((104, "x", 1), 1)])

    def test_drawn_bags(self):
        for drawing in drawings(1200, 4360):
            bag = drawing.bag(9)
            size = drawing.random.randint(1, 9)
            slide = drawing.random.randint(1, 9)
            for aggregate in AGGREGATES:
                found = called(self, windows, bag, size, slide, aggregate)
                check_form(self, found)
                self.assertEqual(found, windows_by_counting(bag, size, slide, aggregate))


class Sittings(unittest.TestCase):
    def test_a_difference_of_the_gap_and_one_more(self):
        bag = [((0, "x", 0), 1), ((3, "x", 0), 2), ((7, "x", 0), 4)]
        self.assertEqual(called(self, sittings, bag, 3, "count"), [((6, "x", 3), 1), ((10, "x", 4), 1)])
        self.assertEqual(called(self, sittings, bag, 4, "count"), [((11, "x", 7), 1)])
        self.assertEqual(
            called(self, sittings, bag, 2, "count"),
            [((2, "x", 1), 1), ((5, "x", 2), 1), ((9, "x", 4), 1)],
        )

    def test_a_gap_of_0(self):
        bag = [((-1, "x", 5), 1), ((0, "x", 1), 1), ((0, "x", 7), 2), ((1, "x", 3), 1)]
        expected = [((-1, "x", 5), 1), ((0, "x", 15), 1), ((1, "x", 3), 1)]
        self.assertEqual(called(self, sittings, bag, 0, "sum"), expected)

    def test_each_key_has_its_own_sittings(self):
        bag = [((0, "x", 1), 1), ((2, "y", 5), 1), ((4, "x", 2), 1), ((6, "y", -5), 1)]
        expected = [((3, "x", 1), 1), ((5, "y", 5), 1), ((7, "x", 2), 1), ((9, "y", -5), 1)]
        self.assertEqual(called(self, sittings, bag, 3, "sum"), expected)
        expected = [((8, "x", 3), 1), ((10, "y", 0), 1)]
        self.assertEqual(called(self, sittings, bag, 4, "sum"), expected)

    def test_every_aggregate(self):
        bag = [((0, "x", 4), 2), ((1, "x", -3), 5), ((2, "x", 9), 1)]
        for aggregate, worth in (("count", 8), ("sum", 2), ("least", -3), ("greatest", 9)):
            self.assertEqual(called(self, sittings, bag, 1, aggregate), [((3, "x", worth), 1)])

    def test_the_order_of_keys_is_not_that_of_times(self):
        bag = [((0, "b", 1), 1), ((0, "c", 1), 1), ((1, "a", 1), 1), ((1, "c", 1), 1)]
        expected = [((5, "b", 1), 1), ((6, "a", 1), 1), ((6, "c", 2), 1)]
        self.assertEqual(called(self, sittings, bag, 5, "count"), expected)

    def test_nothing(self):
        self.assertEqual(called(self, sittings, [], 3, "sum"), [])

    def test_drawn_bags(self):
        for drawing in drawings(800, 4400):
            bag = drawing.bag(10)
            for gap in range(7):
                aggregate = drawing.pick(*AGGREGATES)
                found = called(self, sittings, bag, gap, aggregate)
                check_form(self, found)
                self.assertEqual(found, sittings_by_counting(bag, gap, aggregate))

    def test_drawn_bags_by_every_aggregate(self):
        for drawing in drawings(300, 4420):
            bag = drawing.bag(10)
            for aggregate in AGGREGATES:
                gap = drawing.pick(0, 1, 2, 3, 4, 5, 6, 1000)
                self.assertEqual(
                    called(self, sittings, bag, gap, aggregate), sittings_by_counting(bag, gap, aggregate)
                )


class Near(unittest.TestCase):
    def test_the_ends_of_the_stretch(self):
        left = [((10, "x", 1), 1)]
        for time in range(4, 17):
            there = 10 - 2 <= time <= 10 + 3
            found = called(self, near, left, [((time, "x", 5), 1)], 2, 3, "right")
            self.assertEqual(found, [((max(time, 10), "x", 5), 1)] if there else [])

    def test_stretches_of_0(self):
        right = [((time, "x", time), 1) for time in (9, 10, 11)]
        self.assertEqual(called(self, near, [((10, "x", 1), 1)], right, 0, 0, "sum"), [((10, "x", 11), 1)])

    def test_keys_are_the_same(self):
        left = [((0, "a", 1), 1), ((0, "b", 2), 1)]
        right = [((0, "ab", 9), 1), ((0, "b", 5), 1)]
        self.assertEqual(called(self, near, left, right, 5, 5, "difference"), [((0, "b", -3), 1)])

    def test_every_combination(self):
        for combination, worth in (("left", 7), ("right", -4), ("sum", 3), ("difference", 11)):
            found = called(self, near, [((0, "x", 7), 2)], [((1, "x", -4), 3)], 0, 1, combination)
            self.assertEqual(found, [((1, "x", worth), 6)])

    def test_rows_that_become_equal_are_added(self):
        left = [((0, "x", 1), 2), ((1, "x", 1), 5)]
        right = [((1, "x", 4), 3), ((1, "x", 8), 1)]
        self.assertEqual(called(self, near, left, right, 0, 1, "left"), [((1, "x", 1), 28)])
        self.assertEqual(near(left, right, 0, 1, "sum"), [((1, "x", 5), 21), ((1, "x", 9), 7)])

    def test_empty_bags(self):
        bag = [((0, "x", 1), 1)]
        for left, right in (([], []), (bag, []), ([], bag)):
            self.assertEqual(called(self, near, left, right, 5, 5, "sum"), [])

    def test_drawn_bags(self):
        for drawing in drawings(700, 4500):
            left = drawing.bag(7)
            right = drawing.bag(7)
            before = drawing.random.randint(0, 5)
            after = drawing.random.randint(0, 5)
            for combination in COMBINATIONS:
                found = called(self, near, left, right, before, after, combination)
                check_form(self, found)
                self.assertEqual(found, near_by_counting(left, right, before, after, combination))


class Without(unittest.TestCase):
    def test_the_same_time_and_key_whatever_the_value(self):
        left = [((0, "a", 1), 3), ((0, "a", 2), 1), ((0, "b", 1), 4), ((1, "a", 1), 5)]
        self.assertEqual(called(self, without, left, [((0, "a", 9), 1)]), left[2:])
        self.assertEqual(called(self, without, left, [((0, "c", 1), 9), ((2, "a", 1), 9)]), left)

    def test_empty_bags(self):
        left = [((0, "a", 1), 3)]
        self.assertEqual(called(self, without, left, []), left)
        self.assertEqual(called(self, without, [], left), [])
        self.assertEqual(called(self, without, left, left), [])


class Less(unittest.TestCase):
    def test_not_less_than_0(self):
        left = [((0, "a", 1), 3), ((0, "b", 1), 3), ((0, "c", 1), 3), ((0, "d", 1), 3)]
        right = [((0, "a", 1), 2), ((0, "b", 1), 3), ((0, "c", 1), 4)]
        self.assertEqual(called(self, less, left, right), [((0, "a", 1), 1), ((0, "d", 1), 3)])

    def test_the_same_row_only(self):
        left = [((0, "a", 1), 3)]
        right = [((0, "a", 0), 1), ((0, "b", 1), 1), ((1, "a", 1), 1)]
        self.assertEqual(called(self, less, left, right), left)

    def test_rows_of_the_right_alone(self):
        self.assertEqual(called(self, less, [], [((0, "a", 1), 3)]), [])
        self.assertEqual(called(self, less, [((0, "a", 1), 3)], []), [((0, "a", 1), 3)])


class Once(unittest.TestCase):
    def test_each_row_is_there_once(self):
        bag = [((-1, "a", 1), 3), ((0, "a", 1), 1), ((0, "a", 2), MANY_DIGITS)]
        self.assertEqual(called(self, once, bag), [(row, 1) for row, _ in bag])
        self.assertEqual(called(self, once, []), [])

    def test_drawn_bags(self):
        for drawing in drawings(300, 4550):
            bag = drawing.bag(7)
            found = called(self, once, bag)
            check_form(self, found)
            self.assertEqual(found, [(row, 1) for row, _ in bag])


class DrawnPairs(unittest.TestCase):
    def test_without_and_less(self):
        kept = {without: 0, less: 0}
        for drawing in drawings(1200, 4560):
            left = drawing.bag(7)
            right = drawing.bag(7)
            for (time, key, value), count in left:
                alike = (time, key, drawing.pick(value, value, value + 1))
                if drawing.pick(True, False) and alike not in dict(right):
                    right.append((alike, drawing.pick(1, count, count + 1)))
            right.sort()
            for function, expected in ((without, without_by_counting), (less, less_by_counting)):
                found = called(self, function, left, right)
                check_form(self, found)
                self.assertEqual(found, expected(left, right))
                kept[function] += found not in ([], left)
        self.assertTrue(all(many > 300 for many in kept.values()), kept)


if __name__ == "__main__":
    unittest.main()
