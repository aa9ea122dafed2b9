"""What is kept of two inputs (points 23, 26, 27 and 29)."""

import unittest

from calling import called, check_form
from counting import bag_by_counting
from drawn import COMBINATIONS
from drawn_pasts import great_bag, great_stages, pasts
from keeping import (
    View,
    changed,
    less_kept,
    near_kept,
    near_mark_by_counting,
    shown_changes,
    with_keys_shown,
    without_kept,
)
from tidefold.kept_pairs import keep_less, keep_near, keep_without
from tidefold.marks import near_mark
from tidefold.operators import near
from tidefold.shows import ALL

KEEP = {"near": keep_near, "without": keep_without, "less": keep_less}
BY_COUNTING = {"near": near_kept, "without": without_kept, "less": less_kept}
POSITIVE = (None, 1, None, (), 1, None)
POSITIVE_AS_0 = (None, 1, None, (), 0, None)
ANY_AS_0 = (None, None, None, (), 0, None)


def rows(*written):
    """Return a bag of rows of the key x, written as (time, value) or (time, value, count)."""
    return [((part[0], "x", part[1]), part[2] if len(part) > 2 else 1) for part in written]


def kept(test, word, bags, marks, parts, show):
    """Return what is kept of two bags; check that it is a pair of new lists, and that the arguments stay."""
    found = called(test, KEEP[word], *bags, *marks, *parts, show)
    test.assertIs(type(found), tuple)
    left, right = found
    check_form(test, left)
    check_form(test, right)
    copies = (list(left), list(right))
    left.append("one more")
    right.reverse()
    test.assertEqual(KEEP[word](*bags, *marks, *parts, show), copies)
    return copies


class KeepNear(unittest.TestCase):
    def check(self, left, right, marks, parts, show, expected):
        self.assertEqual(kept(self, "near", [left, right], marks, parts, show), expected)

    def test_rows_that_can_still_be_reached(self):
        left = rows((0, 1), (4, 2), (5, 3), (9, 4), (10, 5))
        right = rows((3, 6), (7, 7), (8, 8), (11, 9), (12, 10))
        # From the left one needs t + 3 >= 8, from the right one t + 2 >= 10.
        parts = (2, 3, "sum")
        self.check(left, right, (10, 8), parts, ALL, (left[2:], right[2:]))
        self.check(left, right, (10, 12), parts, ALL, (left[3:], right[2:]))
        self.check(left, right, (10, 13), parts, ALL, (left[4:], right[2:]))
        self.check(left, right, (13, 13), (1, 0, "sum"), ALL, ([], rows((12, 10))))
        self.check(left, right, (13, 13), (0, 1, "sum"), ALL, ([], []))

    def test_the_marks_of_both_are_the_same_and_stretches_of_0(self):
        left, right = rows((4, 1), (5, 1)), rows((4, 2), (5, 2))
        self.check(left, right, (5, 5), (0, 0, "left"), ALL, (left[1:], right[1:]))

    def test_a_show_that_is_none(self):
        for combination in COMBINATIONS:
            self.check(rows((4, 1)), rows((9, 2)), (5, 5), (9, 9, combination), None, ([], []))

    def test_every_combination(self):
        left = rows((1, -2), (1, 3, 2), (1, 4), (7, -9))
        right = rows((1, -5), (1, 6, 4), (7, 9))
        ends = (rows((7, -9)), rows((7, 9)))
        for combination, show, of_left, of_right in (
            ("left", ALL, rows((1, -2), (1, 3, 2), (1, 4)), rows((1, 0, 5))),
            ("left", POSITIVE, rows((1, 3, 2), (1, 4)), rows((1, 0, 5))),
            ("left", POSITIVE_AS_0, rows((1, 1, 3)), rows((1, 0, 5))),
            ("right", POSITIVE, rows((1, 0, 4)), rows((1, 6, 4))),
            ("right", POSITIVE_AS_0, rows((1, 0, 4)), rows((1, 1, 4))),
            ("right", ANY_AS_0, rows((1, 0, 4)), rows((1, 0, 5))),
            ("sum", ALL, left[:3], right[:2]),
            ("sum", POSITIVE_AS_0, left[:3], right[:2]),
            ("sum", ANY_AS_0, rows((1, 0, 4)), rows((1, 0, 5))),
            ("difference", POSITIVE, left[:3], right[:2]),
            ("difference", ANY_AS_0, rows((1, 0, 4)), rows((1, 0, 5))),
        ):
            self.check(left, right, (5, 5), (5, 5, combination), show, (of_left + ends[0], of_right + ends[1]))

    def test_drawn_bags(self):
        for drawing in pasts(1500, 9000):
            view = drawing.pick(drawing.view, drawing.narrow_view)(4)
            marks = drawing.two_marks()
            bags = drawing.two_bags(marks, 7)
            parts = drawing.near_parts(drawing.pick(5, 9))
            found = kept(self, "near", bags, marks, parts, view.show)
            self.assertEqual(found, near_kept(view, *bags, *marks, *parts), (view.stages, bags, marks, parts))

    def test_great_values_and_counts(self):
        for drawing in pasts(500, 9300):
            random = drawing.random
            stages, bounds = great_stages(drawing)
            view = View(stages)
            mark = random.randint(0, 4000)
            marks = [mark, max(0, min(4000, mark + random.randint(-1200, 1200)))]
            bags = [great_bag(drawing, mark, 2000, bounds) for mark in marks]
            parts = (random.randint(0, 1000), random.randint(0, 1000), drawing.pick(*COMBINATIONS))
            found = kept(self, "near", bags, marks, parts, view.show)
            self.assertEqual(found, near_kept(view, *bags, *marks, *parts), (stages, bags, marks, parts))
            self.assertEqual(near_mark(*bags, *marks, *parts[:2]), near_mark_by_counting(*bags, *marks, *parts[:2]))
            self.assertEqual(called(self, near, *bags, *parts), all_pairs(*bags, *parts))


def all_pairs(left, right, before, after, combination):
    found = []
    for (time, key, value), many in left:
        for (other, of, worth), times in right:
            if (key, of) in (("a", "a"), ("b", "b")) and time - other <= before and other - time <= after:
                made = {"left": value, "right": worth, "sum": value + worth, "difference": value - worth}
                found.append(((time if time > other else other, key, made[combination]), many * times))
    return bag_by_counting(found)


class KeepWithout(unittest.TestCase):
    def check(self, left, right, marks, show, expected):
        self.assertEqual(kept(self, "without", [left, right], marks, (), show), expected)

    def test_rows_that_can_still_be_reached(self):
        left = rows((3, 1), (4, 2), (5, 3))
        self.check(left, rows((3, 8), (4, 7)), (5, 4), ALL, (left[1:], rows((4, 7))))
        self.check(left, rows((3, 8), (4, 7)), (4, 5), ALL, (left[1:], rows((4, 0))))
        self.check(left, rows((3, 8), (4, 7)), (5, 5), ALL, (left[2:], []))

    def test_once_for_each_time_and_key(self):
        right = [((4, "x", 1), 3), ((4, "x", 2), 5), ((4, "y", 7), 1), ((5, "x", 9), 1)]
        self.check([], right, (2, 5), ALL, ([], [((4, "x", 0), 1), ((4, "y", 0), 1), ((5, "x", 9), 1)]))
        show = (("y",), 100, None, (), 1, None)
        self.check([], right, (2, 5), show, ([], [((4, "y", 0), 1)]))

    def test_values_that_are_shown(self):
        left = rows((4, -1, 2), (4, 2, 3), (4, 3), (6, -1))
        self.check(left, [], (5, 1), POSITIVE, (left[1:], []))
        self.check(left, [], (5, 1), POSITIVE_AS_0, (rows((4, 1, 4), (6, -1)), []))
        self.check(left, [], (5, 1), ANY_AS_0, (rows((4, 0, 6), (6, -1)), []))
        self.check(left, [], (5, 1), None, ([], []))


class KeepLess(unittest.TestCase):
    def check(self, left, right, marks, show, expected):
        self.assertEqual(kept(self, "less", [left, right], marks, (), show), expected)

    def test_rows_that_can_still_be_reached(self):
        left = rows((3, 1), (4, 2), (5, 3))
        right = rows((3, 8), (4, 7))
        self.check(left, right, (5, 4), ALL, (left[1:], right[1:]))
        self.check(left, right, (4, 5), ALL, (left[1:], right[1:]))
        self.check(left, right, (5, 5), ALL, (left[2:], []))

    def test_values_that_are_shown_stay_as_they_are(self):
        left = rows((4, -1, 2), (4, 2, 3), (4, 3), (6, -1))
        for show in (POSITIVE, POSITIVE_AS_0):
            self.check(left, [], (5, 1), show, (left[1:], []))
            self.check([], left, (1, 5), show, ([], left[1:]))
        self.check(left, [], (5, 1), ANY_AS_0, (left, []))
        self.check(left, left, (5, 1), None, ([], []))

    def test_only_keys_that_are_shown(self):
        bag = [((time, key, 1), 2) for time in (0, 3) for key in ("a", "ab", "b")]
        self.check(bag, bag, (2, 0), (("ab",), None, None, (), 1, "k"), ([bag[1], bag[4]], [bag[1], bag[4]]))


class DrawnPairs(unittest.TestCase):
    def test_without_and_less(self):
        some = 0
        for drawing in pasts(1200, 9500):
            view = drawing.pick(drawing.view, drawing.narrow_view)(4)
            marks = drawing.two_marks()
            bags = drawing.two_bags(marks, 8)
            for word in ("without", "less"):
                found = kept(self, word, bags, marks, (), view.show)
                expected = BY_COUNTING[word](view, *bags, *marks)
                self.assertEqual(found, expected, (word, view.stages, bags, marks))
                some += any(row[0] < mark for bag, mark in zip(found, marks) for row, _ in bag)
        self.assertGreater(some, 500)


class LikeTheRowsThemselves(unittest.TestCase):
    """Point 29, for every operator with two inputs."""

    def drawn(self, drawing, word, most):
        view = drawing.pick(drawing.view, drawing.narrow_view)(3)
        marks = drawing.two_marks()
        parts = drawing.near_parts(9) if word == "near" else ()
        return view, marks, drawing.two_bags(marks, most), parts

    def test_the_same_changes_are_shown(self):
        for word, keep in KEEP.items():
            some = 0
            for drawing in pasts(500, 9600):
                view, marks, bags, parts = self.drawn(drawing, word, 7)
                held = keep(*bags, *marks, *parts, view.show)
                for _ in range(3):
                    changes = self.possible_changes(drawing, bags, marks)
                    expected = shown_changes(view, word, parts, bags, changes)
                    visible = [with_keys_shown(view, more) for more in changes]
                    found = shown_changes(view, word, parts, held, visible)
                    self.assertEqual(found, expected, (word, parts, view.stages, bags, marks, changes))
                    some += found != []
            self.assertGreater(some, 300)

    def possible_changes(self, drawing, bags, marks):
        """Return possible changes of both, many of them with the time and key of a row of the other side."""
        found = []
        for side in (0, 1):
            changes = drawing.changes_near(bags[side], marks[side], 3, drawing.pick(3, 9))
            others = [row for row, _ in bags[1 - side] if row[0] >= marks[side]]
            if others:
                time, key, value = drawing.pick(*others)
                more = [((time, key, drawing.pick(value, value, 0)), drawing.count())]
                changes = bag_by_counting(changes + more)
            found.append(changes)
        return found

    def test_what_is_kept_of_what_is_kept(self):
        for word in KEEP:
            for drawing in pasts(400, 9700):
                past = self.drawn(drawing, word, 7)
                for _ in range(3):
                    self.check_steps(drawing, word, past)

    def check_steps(self, drawing, word, past):
        """Go through two steps of changes and later marks, from the bags and from what is kept of them."""
        view, marks, bags, parts = past
        held = KEEP[word](*bags, *marks, *parts, view.show)
        self.assertEqual(KEEP[word](*held, *marks, *parts, view.show), held)
        for _ in range(2):
            changes = self.possible_changes(drawing, bags, marks)
            bags = [changed(bag, more) for bag, more in zip(bags, changes)]
            held = [changed(bag, with_keys_shown(view, more)) for bag, more in zip(held, changes)]
            marks = [drawing.later_mark(mark) for mark in marks]
            held = kept(self, word, held, marks, parts, view.show)
            self.assertEqual(held, KEEP[word](*bags, *marks, *parts, view.show), (view.stages, past))
            self.assertEqual(held, BY_COUNTING[word](view, *bags, *marks, *parts), (view.stages, past))

    def test_both_marks_one_by_one_and_at_once(self):
        for word, keep in KEEP.items():
            for drawing in pasts(400, 9800):
                view, marks, bags, parts = self.drawn(drawing, word, 7)
                for _ in range(3):
                    later = [drawing.later_mark(mark) for mark in marks]
                    once = keep(*bags, *later, *parts, view.show)
                    first = keep(*bags, *marks, *parts, view.show)
                    self.assertEqual(keep(*first, *later, *parts, view.show), once)
                    for between in ([later[0], marks[1]], [marks[0], later[1]]):
                        for begun in (bags, first):
                            step = keep(*begun, *between, *parts, view.show)
                            found = keep(*step, *later, *parts, view.show)
                            self.assertEqual(found, once, (view.stages, bags, marks, later))


if __name__ == "__main__":
    unittest.main()
