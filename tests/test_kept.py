"""What is kept of one input (points 23 to 25, 28 and 29)."""

import unittest

from calling import called, check_form
from counting import aggregate_of, bag_by_counting
from drawn import AGGREGATES
from drawn_pasts import great_bag, great_stages, pasts
from keeping import (
    View,
    changed,
    keys_of,
    once_kept,
    shown_changes,
    sittings_kept,
    windows_kept,
    with_keys_shown,
)
from tidefold.kept import keep_once, keep_sittings, keep_windows
from tidefold.operators import sittings, window_starts, windows
from tidefold.shows import ALL

TO_3 = (None, None, 3, (), 1, None)
POSITIVE = (None, 1, None, (), 1, None)
ANY_AS_0 = (None, None, None, (), 0, None)
BUT_0_AS_0 = (None, None, None, (0,), 0, None)


def rows(*written):
    """Return a bag of rows of the key x, written as (time, value) or (time, value, count)."""
    return [((part[0], "x", part[1]), part[2] if len(part) > 2 else 1) for part in written]


class KeepWindows(unittest.TestCase):
    def check(self, bag, mark, size, slide, aggregate, show, expected):
        self.assertEqual(called(self, keep_windows, bag, mark, size, slide, aggregate, show), expected)

    def test_the_examples_of_the_interface(self):
        bag = [((2, "x", 7), 1), ((6, "x", 3), 1), ((12, "x", 5), 1)]
        self.check(bag, 15, 20, 5, "least", ALL, [((5, "x", 3), 1), ((10, "x", 5), 1)])
        self.check(bag, 15, 20, 5, "count", (None, 2, None, (), 0, None), [((5, "x", 0), 1), ((10, "x", 0), 1)])

    def test_a_show_that_is_none(self):
        for aggregate in AGGREGATES:
            self.check(rows((2, 7), (20, 1)), 15, 20, 5, aggregate, None, [])

    def test_a_window_whose_last_time_is_the_mark(self):
        for mark, expected in ((4, rows((0, 1))), (5, [])):
            self.check(rows((3, 1)), mark, 5, 5, "sum", ALL, expected)
        for mark, expected in ((-1, rows((-5, 1))), (0, [])):
            self.check(rows((-2, 1)), mark, 5, 5, "sum", ALL, expected)

    def test_a_row_at_the_mark_less_one(self):
        self.check(rows((3, 1), (4, 1)), 4, 5, 5, "count", ALL, rows((0, 0), (4, 1)))
        self.check(rows((4, 1)), 5, 5, 5, "count", ALL, [])
        self.check(rows((4, 1)), 4, 5, 5, "count", ALL, rows((4, 1)))

    def test_rows_between_windows(self):
        self.check(rows((0, 1), (2, 1), (3, 1)), 4, 2, 5, "count", ALL, [])
        self.check(rows((0, 1), (3, 1)), 1, 2, 5, "count", ALL, rows((0, 0), (3, 1)))

    def test_groups_of_windows_that_overlap(self):
        bag = rows((0, 1), (4, 2), (6, 3), (9, 4), (13, 5))
        self.check(bag, 14, 15, 5, "sum", ALL, rows((0, 3), (5, 7), (10, 5)))
        self.check(bag, 15, 15, 5, "sum", ALL, rows((5, 7), (10, 5)))
        self.check(bag, 10, 15, 5, "count", ALL, rows((0, 0, 2), (5, 0, 2), (13, 5)))

    def test_counts_up_to_the_limit_the_last_groups_first(self):
        bag = rows((0, 1, 5), (6, 0, 2), (11, 7, 1))
        for high, expected in ((1, rows((5, 0), (10, 0))), (2, rows((5, 0, 2), (10, 0))),
                               (3, rows((0, 0), (5, 0, 2), (10, 0))), (99, rows((0, 0, 5), (5, 0, 2), (10, 0))),
                               (0, [])):
            self.check(bag, 13, 20, 5, "count", (None, None, high, (), 1, None), expected)

    def test_every_key_has_its_own_limit_and_its_own_groups(self):
        bag = [((0, "a", 1), 3), ((0, "b", -1), 3), ((6, "b", -5), 3)]
        show = (None, None, 1, (), 1, None)
        expected = [((0, "a", 0), 2), ((5, "b", 0), 2)]
        self.check(bag, 7, 10, 5, "count", show, expected)
        self.check(bag, 7, 10, 5, "least", ALL, [((0, "a", 1), 1), ((5, "b", -5), 1)])

    def test_only_keys_that_are_shown(self):
        bag = [((time, key, 1), 2) for time in (0, 3) for key in ("a", "ab", "b")]
        self.check(bag, 2, 5, 5, "sum", (("ab",), None, None, (), 1, "k"), [((0, "ab", 2), 1), ((3, "ab", 1), 2)])

    def test_sums_of_0(self):
        bag = rows((0, 3), (6, 2), (7, -2))
        self.check(bag, 8, 10, 5, "sum", ALL, rows((0, 3), (5, 0)))
        self.check(bag, 8, 10, 5, "sum", POSITIVE, rows((0, 3)))
        self.check(bag, 8, 10, 5, "sum", BUT_0_AS_0, rows((0, 3)))
        self.check(bag, 8, 10, 5, "sum", ANY_AS_0, rows((5, 0)))
        bag = rows((0, 3), (1, -3), (6, 2))
        self.check(bag, 8, 10, 5, "sum", ALL, rows((5, 2)))
        self.check(rows((0, 1, 3)), 3, 5, 5, "sum", ANY_AS_0, rows((0, 0)))

    def test_least_and_greatest_values_of_a_group_and_those_behind_it(self):
        bag = rows((0, 5), (5, 3), (6, 9), (10, 4), (15, 4))
        self.check(bag, 17, 20, 5, "least", ALL, rows((5, 3), (15, 4)))
        self.check(bag, 17, 20, 5, "greatest", ALL, rows((5, 9), (15, 4)))
        self.check(bag, 17, 20, 5, "greatest", TO_3, rows((15, 4)))
        self.check(bag, 17, 20, 5, "least", TO_3, rows((5, 3)))
        self.check(bag, 17, 20, 5, "least", (None, None, None, (4, 5), 1, None), rows((5, 3), (15, 5)))
        self.check(bag, 17, 20, 5, "greatest", ANY_AS_0, rows((15, 0)))

    def test_values_behind_which_nothing_is_seen(self):
        self.check(rows((0, 5), (6, 9)), 8, 10, 5, "least", TO_3, [])
        self.check(rows((0, 1), (6, 9)), 8, 10, 5, "least", TO_3, rows((0, 1)))
        self.check(rows((0, 5), (6, -9)), 8, 10, 5, "greatest", POSITIVE, rows((0, 5)))

    def test_great_counts_are_cut_off(self):
        many = 10 ** 10
        bag = rows((0, 1, many), (3, 0, many))
        self.check(bag, 4, 1000, 1, "count", (None, None, many, (), 1, None), rows((0, 0, 1), (3, 0, many)))
        self.check(bag, 4, 1000, 1000, "count", ANY_AS_0, rows((0, 0, 1)))
        self.check(bag, 4, 1000, 1000, "count", ALL, rows((0, 0, 2 * many)))

    def test_drawn_bags(self):
        some = 0
        for drawing in pasts(1500, 7000):
            view = drawing.pick(drawing.view, drawing.narrow_view)(4)
            mark = drawing.mark()
            parts = drawing.window_parts(*drawing.pick((12, 5), (40, 9), (3, 8)))
            bag = drawing.bag_near(mark, 10, parts[0] + 3)
            found = called(self, keep_windows, bag, mark, *parts, view.show)
            check_form(self, found)
            self.assertEqual(found, windows_kept(view, bag, mark, *parts), (view.stages, bag, mark, parts))
            some += any(row[0] < mark for row, _ in found)
        self.assertGreater(some, 500)

    def test_great_values_and_counts(self):
        for drawing in pasts(500, 7400):
            random = drawing.random
            stages, bounds = great_stages(drawing)
            view = View(stages)
            slide = random.randint(1, 1000)
            parts = (random.randint(1, min(1000, 10 * slide)), slide, drawing.pick(*AGGREGATES))
            mark = random.randint(0, 4000)
            bag = great_bag(drawing, mark, parts[0] + 5, bounds)
            found = called(self, keep_windows, bag, mark, *parts, view.show)
            self.assertEqual(found, windows_kept(view, bag, mark, *parts), (stages, bag, mark, parts))
            self.assertEqual(called(self, windows, bag, *parts), all_windows(bag, *parts))

    def test_times_of_ten_digits(self):
        for drawing in pasts(300, 7500):
            random = drawing.random
            slide = drawing.pick(random.randint(1, 20), random.randint(1, 1000))
            size = drawing.pick(slide, random.randint(1, 1000))
            mark = random.randint(-10 ** 10, 10 ** 10)
            bag = [(row, random.randint(1, 10 ** 10)) for row, _ in drawing.bag_near(mark, 8, size)]
            view = drawing.narrow_view(3)
            found = called(self, keep_windows, bag, mark, size, slide, "count", view.show)
            self.assertEqual(found, windows_kept(view, bag, mark, size, slide, "count"))
            limit = view.count_limit()
            for key in ("a", "ab", "b"):
                if limit is not None:
                    kept = sum(count for row, count in found if row[1] == key and row[0] < mark)
                    self.assertLessEqual(kept, limit)
            starts = window_starts(mark, size, slide)
            first = mark - (size - 1)
            self.assertEqual(starts, [start for start in range(first, mark + 1) if start % slide == 0])


def all_windows(bag, size, slide, aggregate):
    """Go through all windows from that of the first row to that of the last one."""
    times = [row[0] for row, _ in bag]
    found = []
    starts = [start for start in range(min(times, default=0) - size, max(times, default=0) + 1) if start % slide == 0]
    for start in starts:
        inside = [(row, count) for row, count in bag if start <= row[0] < start + size]
        for key in keys_of(inside):
            worth = aggregate_of([(row[2], count) for row, count in inside if row[1] == key], aggregate)
            found.append(((start + size - 1, key, worth), 1))
    return sorted(found)


class KeepSittings(unittest.TestCase):
    def check(self, bag, mark, gap, aggregate, show, expected):
        self.assertEqual(called(self, keep_sittings, bag, mark, gap, aggregate, show), expected)

    def test_a_gap_that_just_reaches_the_mark(self):
        bag = rows((0, 4), (3, 5))
        self.check(bag, 6, 3, "sum", ALL, rows((3, 9)))
        self.check(bag, 7, 3, "sum", ALL, [])
        self.check(bag, 5, 2, "sum", ALL, rows((3, 5)))
        self.check(bag, 6, 2, "sum", ALL, [])

    def test_a_gap_of_0_keeps_nothing(self):
        self.check(rows((5, 1), (6, 1)), 6, 0, "count", ALL, rows((6, 1)))

    def test_a_show_that_is_none(self):
        self.check(rows((5, 1), (6, 1)), 6, 5, "count", None, [])

    def test_rows_that_are_not_final_do_not_lengthen_the_sitting(self):
        self.check(rows((0, 1, 2), (5, 1), (6, 1)), 5, 5, "count", ALL, rows((0, 0, 2), (5, 1), (6, 1)))
        self.check(rows((0, 1, 2), (5, 1), (6, 1)), 6, 5, "count", ALL, rows((5, 0, 3), (6, 1)))

    def test_counts_up_to_the_limit(self):
        bag = rows((0, 1, 5), (2, 0, 10 ** 20))
        self.check(bag, 3, 2, "count", TO_3, rows((2, 0, 4)))
        self.check(bag, 3, 2, "count", ALL, rows((2, 0, 10 ** 20 + 5)))
        self.check(bag, 3, 2, "count", ANY_AS_0, rows((2, 0)))
        self.check(bag, 3, 2, "count", (None, None, 0, (), 1, None), [])

    def test_sums_of_0(self):
        bag = rows((0, -2), (1, 1, 2))
        self.check(bag, 2, 1, "sum", ALL, rows((1, 0)))
        self.check(bag, 2, 1, "sum", POSITIVE, [])
        self.check(bag, 2, 1, "sum", BUT_0_AS_0, [])
        self.check(bag, 2, 1, "sum", ANY_AS_0, rows((1, 0)))
        self.check(rows((1, 7)), 2, 1, "sum", ANY_AS_0, rows((1, 0)))
        self.check(rows((1, 7)), 2, 1, "sum", BUT_0_AS_0, rows((1, 7)))

    def test_least_and_greatest_values(self):
        bag = rows((0, 5), (1, 9))
        self.check(bag, 2, 1, "least", ALL, rows((1, 5)))
        self.check(bag, 2, 1, "greatest", ALL, rows((1, 9)))
        self.check(bag, 2, 1, "least", TO_3, [])
        self.check(bag, 2, 1, "greatest", TO_3, rows((1, 4)))

    def test_only_keys_that_are_shown(self):
        bag = [((time, key, 1), 2) for time in (0, 3) for key in ("a", "ab", "b")]
        self.check(bag, 2, 5, "sum", (("ab",), None, None, (), 1, "k"), [((0, "ab", 2), 1), ((3, "ab", 1), 2)])

    def test_drawn_bags(self):
        some = 0
        for drawing in pasts(1500, 7600):
            view = drawing.pick(drawing.view, drawing.narrow_view)(4)
            mark = drawing.mark()
            parts = drawing.sitting_parts(drawing.pick(6, 12))
            bag = drawing.bag_near(mark, 10, 10)
            found = called(self, keep_sittings, bag, mark, *parts, view.show)
            check_form(self, found)
            self.assertEqual(found, sittings_kept(view, bag, mark, *parts), (view.stages, bag, mark, parts))
            some += any(row[0] < mark for row, _ in found)
        self.assertGreater(some, 600)

    def test_great_values_and_counts(self):
        for drawing in pasts(500, 7700):
            stages, bounds = great_stages(drawing)
            view = View(stages)
            parts = (drawing.random.randint(0, 1000), drawing.pick(*AGGREGATES))
            mark = drawing.random.randint(0, 4000)
            bag = great_bag(drawing, mark, 2 * parts[0] + 5, bounds)
            found = called(self, keep_sittings, bag, mark, *parts, view.show)
            self.assertEqual(found, sittings_kept(view, bag, mark, *parts), (stages, bag, mark, parts))
            self.assertEqual(called(self, sittings, bag, *parts), all_sittings(bag, *parts))


def all_sittings(bag, gap, aggregate):
    found = []
    for key in ("a", "b"):
        own = [pair for pair in bag if pair[0][1] == key]
        for at, ((time, _, _), _) in enumerate(own):
            if at + 1 == len(own) or own[at + 1][0][0] > time + gap:
                begin = at
                while begin > 0 and own[begin][0][0] - own[begin - 1][0][0] <= gap:
                    begin -= 1
                worth = aggregate_of([(row[2], count) for row, count in own[begin:at + 1]], aggregate)
                found.append(((time + gap, key, worth), 1))
    return sorted(found)


class KeepOnce(unittest.TestCase):
    def test_rows_that_are_not_final_and_whose_keys_are_shown(self):
        bag = [((time, key, value), 2) for time in (-1, 4, 5, 6) for key in ("a", "b") for value in (0, 7)]
        self.assertEqual(called(self, keep_once, bag, 5, ALL), bag[8:])
        self.assertEqual(called(self, keep_once, bag, 5, TO_3), bag[8:])
        self.assertEqual(called(self, keep_once, bag, 7, ALL), [])
        self.assertEqual(called(self, keep_once, bag, 6, (("b",), None, None, (), 1, "a")), bag[14:])
        self.assertEqual(called(self, keep_once, bag, 5, None), [])

    def test_drawn_bags(self):
        for drawing in pasts(600, 7800):
            view = drawing.view(4)
            mark = drawing.mark()
            bag = drawing.bag_near(mark, 9, 6, 6)
            found = called(self, keep_once, bag, mark, view.show)
            check_form(self, found)
            expected = [pair for pair in bag if pair[0][0] >= mark and view.shows_key(pair[0][1])]
            self.assertEqual(found, expected)

    def test_all_small_changes_of_bags_with_the_same_rows_from_the_mark_on(self):
        for drawing in pasts(40, 7850):
            view = drawing.pick(drawing.view, drawing.narrow_view)(3)
            mark = drawing.mark()
            bag = [pair for pair in drawing.bag_near(mark, 7, 5, 3) if pair[0][1] == "a"]
            other = [pair for pair in drawing.bag_near(mark, 7, 5, -1) if pair[0][1] == "a"]
            other += [pair for pair in bag if pair[0][0] >= mark]
            self.assertEqual(keep_once(bag, mark, view.show), keep_once(other, mark, view.show))
            away = [(row, -count) for row, count in bag if row[0] >= mark]
            for taken in ([], away):
                for place in range(28):
                    row = (mark + place // 7, "a", place % 7 - 3)
                    for count in (0, 1, 2):
                        changes = [bag_by_counting(taken + [(row, count)])]
                        told = [shown_changes(view, "once", (), [past], changes) for past in (bag, other)]
                        self.assertEqual(told[0], told[1], (view.stages, bag, other, changes))


class LikeTheRowsThemselves(unittest.TestCase):
    """Point 29, for every operator with one input."""

    WORDS = {
        "once": (keep_once, once_kept, lambda drawing: ()),
        "windows": (keep_windows, windows_kept, lambda drawing: drawing.window_parts(drawing.pick(12, 20), 5)),
        "sittings": (keep_sittings, sittings_kept, lambda drawing: drawing.sitting_parts(drawing.pick(6, 12))),
    }

    def test_the_same_changes_are_shown(self):
        some = 0
        for word, (keep, _, draw) in self.WORDS.items():
            for drawing in pasts(500, 8000):
                view = drawing.pick(drawing.view, drawing.narrow_view)(4)
                mark = drawing.mark()
                bag = drawing.bag_near(mark, 8)
                parts = draw(drawing)
                kept = keep(bag, mark, *parts, view.show)
                for _ in range(3):
                    changes = drawing.changes_near(bag, mark, 3)
                    expected = shown_changes(view, word, parts, [bag], [changes])
                    found = shown_changes(view, word, parts, [kept], [with_keys_shown(view, changes)])
                    self.assertEqual(found, expected, (word, parts, view.stages, bag, mark, changes))
                    some += found != []
        self.assertGreater(some, 1500)

    def test_what_is_kept_of_what_is_kept(self):
        for word, (keep, kept_by_counting, draw) in self.WORDS.items():
            for drawing in pasts(400, 8500):
                view = drawing.pick(drawing.view, drawing.narrow_view)(3)
                mark = drawing.mark()
                bag = drawing.bag_near(mark, 8)
                parts = draw(drawing)
                for _ in range(4):
                    self.check_steps(drawing, view, (bag, mark, parts), keep, kept_by_counting)

    def check_steps(self, drawing, view, past, keep, kept_by_counting):
        """Go through two steps of changes and later marks, from the bag and from what is kept of it."""
        bag, mark, parts = past
        kept = keep(bag, mark, *parts, view.show)
        self.assertEqual(keep(kept, mark, *parts, view.show), kept)
        for _ in range(2):
            changes = drawing.changes_near(bag, mark, 3)
            bag = changed(bag, changes)
            kept = changed(kept, with_keys_shown(view, changes))
            mark = drawing.later_mark(mark)
            kept = called(self, keep, kept, mark, *parts, view.show)
            self.assertEqual(kept, keep(bag, mark, *parts, view.show), (view.stages, past))
            self.assertEqual(kept, kept_by_counting(view, bag, mark, *parts), (view.stages, past))


if __name__ == "__main__":
    unittest.main()
