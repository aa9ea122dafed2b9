"""Marks of results (points 17 and 18)."""

import unittest

from calling import called
from counting import bag_by_counting
from drawn import MANY_DIGITS
from drawn_pasts import pasts
from keeping import (
    MADE,
    changed,
    differences,
    near_mark_by_counting,
    plan_told,
    sittings_mark_by_counting,
    windows_mark_by_counting,
    without_mark_by_counting,
)
from tidefold.marks import near_mark, plan_mark, sittings_mark, windows_mark, without_mark
from tidefold.parsing import parse_plan


def row(time, key="x", value=0):
    return (time, key, value)


def changed_times(word, parts, bags, changes):
    """Return the times of the rows of a result that changes change."""
    after = [changed(bag, more) for bag, more in zip(bags, changes)]
    return [row[0] for row, _ in differences(MADE[word](parts, bags), MADE[word](parts, after))]


def taken_away(bag, mark):
    """Return changes that take away each row that is not final, once all of it and once one of it, and all rows."""
    late = [(row, count) for row, count in bag if row[0] >= mark]
    found = [[(row, -1)] for row, _ in late] + [[(row, -count)] for row, count in late]
    return found + [[(row, -count) for row, count in late]]


class WindowsMark(unittest.TestCase):
    def test_ordinary_windows(self):
        for mark, size, slide, expected in (
            (0, 5, 5, 4), (4, 5, 5, 4), (5, 5, 5, 9), (-1, 5, 5, -1), (-5, 5, 5, -1), (-6, 5, 5, -6),
            (7, 10, 5, 9), (10, 10, 5, 14), (0, 1, 1, 0), (2, 2, 5, 6), (1, 2, 5, 1), (-4, 2, 5, -4),
            (1, 1, 1000, 1000), (10 ** 10 + 1, 1, 1000, 10 ** 10 + 1000),
        ):
            self.assertEqual(called(self, windows_mark, mark, size, slide), expected)

    def test_small_windows(self):
        for size in range(1, 13):
            for slide in range(1, 6):
                for mark in range(-14, 15):
                    found = called(self, windows_mark, mark, size, slide)
                    self.assertEqual(found, windows_mark_by_counting(mark, size, slide))
                    self.assertGreaterEqual(found, mark)

    def test_great_windows_and_marks(self):
        for drawing in pasts(400, 10000):
            random = drawing.random
            size, slide = random.randint(1, 1000), random.randint(1, 1000)
            mark = drawing.pick(random.randint(-10 ** 10, 10 ** 10), MANY_DIGITS + random.randint(0, 99))
            self.assertEqual(called(self, windows_mark, mark, size, slide), windows_mark_by_counting(mark, size, slide))

    def test_possible_changes(self):
        for drawing in pasts(400, 10100):
            size, slide, aggregate = drawing.window_parts()
            mark = drawing.mark()
            bag = drawing.bag_near(mark, 7, size)
            found = windows_mark(mark, size, slide)
            for _ in range(4):
                changes = drawing.changes_near(bag, mark, 3, size + slide)
                times = changed_times("windows", (size, slide, aggregate), [bag], [changes])
                self.assertTrue(all(time >= found for time in times))
            # A window that ends at the mark of the result is open for a row at its last time.
            times = changed_times("windows", (size, slide, "count"), [bag], [[(row(found), 1)]])
            self.assertEqual(min(times), found)


class SittingsMark(unittest.TestCase):
    def test_ordinary_sittings(self):
        for bag, mark, gap, expected in (
            ([], 5, 3, 8),
            ([(row(4), 1)], 5, 3, 7),
            ([(row(2), 1)], 5, 3, 5),
            ([(row(1), 1)], 5, 3, 8),
            ([(row(2), 1), (row(3), 1)], 5, 3, 6),
            ([(row(2), 1), (row(5), 1)], 5, 3, 5),
            ([(row(5), 1)], 5, 3, 8),
            ([(row(2, "a"), 1), (row(4, "b"), 1)], 5, 3, 5),
            ([(row(1, "a"), 1), (row(4, "b"), 1)], 5, 3, 7),
            ([(row(4), 1)], 5, 0, 5),
            ([(row(-7), 1)], -5, 2, -5),
        ):
            self.assertEqual(called(self, sittings_mark, bag, mark, gap), expected, (bag, mark, gap))

    def test_possible_changes(self):
        for drawing in pasts(500, 10200):
            gap, aggregate = drawing.sitting_parts()
            mark = drawing.mark()
            bag = drawing.bag_near(mark, 8, 9)
            found = called(self, sittings_mark, bag, mark, gap)
            self.assertEqual(found, sittings_mark_by_counting(bag, mark, gap))
            for _ in range(4):
                changes = drawing.changes_near(bag, mark, 3, gap + 3)
                times = changed_times("sittings", (gap, aggregate), [bag], [changes])
                self.assertTrue(all(time >= found for time in times))
            # A row at the mark, of each key and of one that is not there, changes one at the mark of the result.
            times = []
            for key in ("a", "ab", "b", "new"):
                for away in ([], [(row, -count) for row, count in bag if row[0] >= mark]):
                    changes = bag_by_counting(away + [((mark, key, 0), 1)])
                    times += changed_times("sittings", (gap, "count"), [bag], [changes])
            self.assertEqual(min(times), found, (bag, mark, gap))


class MarksOfPairs(unittest.TestCase):
    def test_ordinary_near(self):
        for left, right, left_mark, right_mark, before, after, expected in (
            ([], [], 5, 8, 2, 2, 8),
            ([], [], 9, 8, 2, 2, 9),
            ([(row(4), 1)], [], 5, 8, 2, 4, 8),
            ([(row(5), 1)], [], 5, 8, 2, 4, 8),
            ([(row(7), 1)], [], 9, 8, 0, 1, 8),
            ([(row(6), 1)], [], 9, 8, 0, 1, 9),
            ([], [(row(6), 1)], 5, 8, 0, 0, 6),
            ([], [(row(4), 1)], 5, 8, 1, 0, 5),
            ([], [(row(4), 1)], 5, 8, 0, 0, 8),
            ([], [(row(8), 1)], 5, 8, 0, 0, 8),
            ([(row(-3), 1)], [(row(-2), 1)], -2, -4, 0, 0, -3),
        ):
            found = called(self, near_mark, left, right, left_mark, right_mark, before, after)
            self.assertEqual(found, expected, (left, right, left_mark, right_mark, before, after))

    def test_ordinary_without_and_less(self):
        for left, left_mark, right_mark, expected in (
            ([], 5, 3, 5), ([], 5, 8, 5), ([(row(3), 1)], 5, 3, 3), ([(row(2), 1)], 5, 3, 5),
            ([(row(4), 1)], 5, 3, 4), ([(row(5), 1)], 5, 3, 5), ([(row(4), 1), (row(9), 1)], 5, 8, 5),
        ):
            self.assertEqual(called(self, without_mark, left, left_mark, right_mark), expected)

    def drawn(self, drawing, word):
        marks = drawing.two_marks()
        bags = drawing.two_bags(marks, 6)
        if word == "near":
            parts = drawing.near_parts()
            mark = called(self, near_mark, *bags, *marks, *parts[:2])
            self.assertEqual(mark, near_mark_by_counting(*bags, *marks, *parts[:2]))
            return marks, bags, parts, mark
        mark = called(self, without_mark, bags[0], *marks)
        self.assertEqual(mark, without_mark_by_counting(bags[0], *marks))
        return marks, bags, (), mark

    def test_possible_changes(self):
        for word in ("near", "without", "less"):
            for drawing in pasts(300, 10300):
                marks, bags, parts, mark = self.drawn(drawing, word)
                for _ in range(4):
                    changes = [drawing.changes_near(bag, at, 3) for bag, at in zip(bags, marks)]
                    times = changed_times(word, parts, bags, changes)
                    self.assertTrue(all(time >= mark for time in times), (word, parts, bags, marks, changes))
                self.assertEqual(self.least_changed(word, parts, bags, marks, mark), mark, (word, bags, marks, parts))

    def least_changed(self, word, parts, bags, marks, mark):
        """Return the least time of a row of the result that some simple possible changes change.

        Rows are put at the times up to the mark of the result and a little beyond. Of each key one of its
        own suffices; the key that is new shows what two rows that are both put tell.
        """
        times = range(min(marks), mark + 7)
        found = []
        for place in times:
            for key in ("a", "ab", "b", "new"):
                for value in sorted({0, *[row[2] for bag in bags for row, _ in bag if row[:2] == (place, key)]}):
                    put = [((place, key, value), 1)]
                    options = [[put, []], [[], put], [put, put]]
                    for away in taken_away(bags[1], marks[1]):
                        options.append([[], away])
                    for changes in options:
                        if all(row[0] >= at for more, at in zip(changes, marks) for row, _ in more):
                            found += changed_times(word, parts, bags, changes)
        return min(found, default=None)


class PlanMark(unittest.TestCase):
    def check(self, text, tables, marks, expected):
        self.assertEqual(called(self, plan_mark, parse_plan(text), tables, marks), expected, text)

    def test_operators_without_final_rows(self):
        tables = {"a": [], "b": []}
        marks = {"a": 5, "b": 8}
        for text, expected in (
            ("a", 5), ("b | once", 8), ("a | sift > 3 | scale -5 | only k | rekey k", 5), ("a | later 7", 12),
            ("both(a, b)", 5), ("both(b, a | later 9)", 8), ("a | windows 10 10 sum", 9), ("a | sittings 3 sum", 8),
            ("near 1 1 sum(a, b)", 8), ("near 1 1 sum(b | later 3, a)", 11), ("without(a, b)", 5), ("less(b, a)", 8),
            ("a | later 5 | windows 10 10 sum | sittings 3 sum", 22),
        ):
            self.check(text, tables, marks, expected)

    def test_final_rows(self):
        marks = {"a": 5, "b": 8}
        tables = {"a": [(row(4), 1)], "b": [(row(6), 1), (row(7, "y"), 2)]}
        self.check("a | sittings 3 count", tables, marks, 7)
        self.check("b | sittings 3 count", tables, marks, 9)
        self.check("near 1 1 sum(a, b)", tables, marks, 6)
        self.check("less(b, a)", tables, marks, 6)
        self.check("less(a, b)", tables, marks, 5)
        self.check("without(b, a)", tables, marks, 6)

    def test_what_is_not_kept_does_not_count(self):
        marks = {"a": 5, "b": 8}
        tables = {"a": [(row(4), 1)], "b": [(row(6), 1), (row(7, "y"), 2)]}
        self.check("a | sittings 3 count | only z", tables, marks, 8)
        self.check("a | sittings 3 greatest | sift > 5", tables, marks, 8)
        self.check("a | sittings 3 greatest | sift < 0", tables, marks, 7)
        self.check("a | sittings 3 least | sift < 0", tables, marks, 8)
        self.check("a | sittings 3 least | sift > 5", tables, marks, 7)
        self.check("a | sittings 3 greatest | sift > 5 | sift < 5", tables, marks, 8)
        self.check("a | sittings 3 sum | sift > 5", tables, marks, 8)
        self.check("less(b, a) | only y", tables, marks, 7)
        self.check("less(b, a) | sift != 0", tables, marks, 8)
        self.check("without(b, a) | sift > 0", tables, marks, 8)

    def test_drawn_plans(self):
        words = {}
        for drawing in pasts(800, 10500):
            plan = drawing.plan(drawing.random.randint(1, 12), 4)
            marks = {name: drawing.random.randint(-2, 9) for name in ("a", "b", "c")}
            tables = {name: drawing.bag_near(marks[name], 6, 9) for name in marks}
            expected = plan_told(plan, tables, marks)[1]
            self.assertEqual(called(self, plan_mark, plan, tables, marks), expected, (plan, tables, marks))
            words[plan[0]] = True
            name = drawing.pick(*marks)
            changes = drawing.changes_near(tables[name], marks[name], 3)
            after = {**tables, name: changed(tables[name], changes)}
            told = differences(plan_told(plan, tables, marks)[0], plan_told(plan, after, marks)[0])
            self.assertTrue(all(row[0] >= expected for row, _ in told), (plan, tables, marks, name, changes))
        self.assertEqual(len(words), 9)


if __name__ == "__main__":
    unittest.main()
