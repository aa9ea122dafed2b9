"""What a show tells of values: classes, the count limit and the token (points 20 to 22)."""

import unittest

from calling import called
from counting import shown_by_counting
from drawn import COMPARISONS
from drawn_pasts import great_value, pasts
from keeping import View, differences
from tidefold.classes import class_above, class_below, count_limit, is_shown, shows_all, token
from tidefold.shows import ALL, narrowed

ANY = range(-14, 15)


def show_with(low=None, high=None, holes=(), factor=1):
    return (None, low, high, holes, factor, None)


class IsShown(unittest.TestCase):
    def test_bounds_and_holes(self):
        show = show_with(-2, 5, (0, 1, 3))
        self.assertEqual([value for value in ANY if called(self, is_shown, show, value)], [-2, -1, 2, 4, 5])
        self.assertTrue(is_shown(ALL, 10 ** 50))
        self.assertIs(is_shown(show_with(3), 2), False)
        self.assertIs(is_shown(show_with(3), 3), True)
        self.assertIs(is_shown(show_with(None, 3), 4), False)
        self.assertIs(is_shown(show_with(None, 3, (), 0), 3), True)

    def test_shows_all(self):
        self.assertIs(called(self, shows_all, ALL), True)
        self.assertIs(shows_all((("a",), None, None, (), 0, "k")), True)
        for show in (show_with(0), show_with(None, 0), show_with(holes=(0,)), show_with(0, 0)):
            self.assertIs(shows_all(show), False)


class Classes(unittest.TestCase):
    def check(self, show, above, below):
        """Check the classes of values, given as dicts."""
        for value, expected in above.items():
            self.assertEqual(called(self, class_above, show, value), expected, (show, value))
        for value, expected in below.items():
            self.assertEqual(called(self, class_below, show, value), expected, (show, value))

    def test_values_that_are_shown_with_a_factor(self):
        self.check(show_with(2, 5, (3,), -7), {2: 2, 4: 4, 5: 5}, {2: 2, 4: 4, 5: 5})
        self.check(ALL, {0: 0, -9: -9}, {0: 0, -9: -9})

    def test_values_that_are_not_shown(self):
        show = show_with(-2, 8, (1, 2, 3, 5))
        self.check(show, {-9: -3, -3: -3, 1: 3, 2: 3, 3: 3, 5: 5, 9: None, 99: None},
                   {-9: None, -3: None, 1: 1, 2: 1, 3: 1, 5: 5, 9: 9, 99: 9})

    def test_values_that_are_shown_with_a_factor_of_0(self):
        show = show_with(-2, 8, (1, 2, 3, 5), 0)
        self.check(show, {-2: 0, -1: 0, 0: 0, 4: 4, 6: 8, 8: 8}, {-2: -2, -1: -2, 0: -2, 4: 4, 6: 6, 8: 6})
        self.check(show, {-9: -3, 2: 3, 9: None}, {-9: None, 2: 1, 9: 9})

    def test_runs_without_end_and_a_factor_of_0(self):
        self.check(show_with(None, None, (), 0), {-5: 0, 5: 0}, {-5: 0, 5: 0})
        self.check(show_with(3, None, (), 0), {3: 3, 9: 3, 2: 2, -9: 2}, {3: 3, 9: 3, 2: None, -9: None})
        self.check(show_with(None, -3, (), 0), {-3: -3, -9: -3, 0: None}, {-3: -3, -9: -3, 0: -2})
        self.check(show_with(None, None, (4, 5), 0), {3: 3, 4: 5, 5: 5, 6: 6, 9: 6}, {0: 3, 4: 4, 5: 4, 6: 6, 9: 6})

    def test_drawn_shows(self):
        for drawing in pasts(700, 5000):
            view = drawing.pick(drawing.view, drawing.narrow_view)(4)
            if view.show is None:
                continue
            near = [value for run in view.runs for value in run[:2] if value is not None]
            for value in list(ANY) + near + [end + step for end in near for step in (-1, 1)]:
                told = (class_above(view.show, value), class_below(view.show, value))
                self.assertEqual(told, (view.class_of(value, "above"), view.class_of(value, "below")))
                self.assertIs(is_shown(view.show, value), view.shows_value(value))
            self.assertIs(shows_all(view.show), view.shows_all())

    def told(self, view, least, values, choose):
        """Return what is shown of later values, of which one is put each time, if this is the least one."""
        before = [] if least is None else [((0, view.key, least), 1)]
        found = []
        for value in values:
            after = [((0, view.key, value if least is None else choose(least, value)), 1)]
            found.append(shown_by_counting(view.stages, differences(before, after)))
        return found

    def test_they_are_equal_just_if_no_later_values_tell_values_apart(self):
        for drawing in pasts(250, 5300):
            view = drawing.narrow_view(4)
            if view.show is None or drawing.wide:
                continue
            view.key = next(key for key in ("a", "ab", "b", "zz", "aa") if view.shows_key(key))
            for choose, told_of in ((min, class_above), (max, class_below)):
                self.check_apart(view, choose, told_of)

    def check_apart(self, view, choose, told_of):
        told = {value: self.told(view, value, ANY, choose) for value in [None] + list(ANY)[3:-3]}
        classes = {value: None if value is None else told_of(view.show, value) for value in told}
        for one in told:
            for other in told:
                if one != other:
                    self.assertIs(told[one] == told[other], classes[one] == classes[other], (view.stages, one, other))


class CountLimit(unittest.TestCase):
    def test_no_shown_number_of_rows(self):
        self.assertEqual(called(self, count_limit, show_with(None, 0)), 0)
        self.assertEqual(count_limit(show_with(-5, -2, (), 0)), 0)

    def test_a_greatest_shown_number(self):
        self.assertEqual(count_limit(show_with(None, 1)), 2)
        self.assertEqual(count_limit(show_with(None, 10 ** 30)), 10 ** 30 + 1)
        self.assertEqual(count_limit(show_with(3, 9, (5,), 0)), 10)

    def test_no_greatest_shown_number(self):
        self.assertIsNone(count_limit(ALL))
        self.assertIsNone(count_limit(show_with(3, None, (5,), -2)))

    def test_no_greatest_shown_number_and_a_factor_of_0(self):
        self.assertEqual(count_limit(show_with(factor=0)), 1)
        self.assertEqual(count_limit(show_with(-5, factor=0)), 1)
        self.assertEqual(count_limit(show_with(1, factor=0)), 1)
        self.assertEqual(count_limit(show_with(2, factor=0)), 2)
        self.assertEqual(count_limit(show_with(holes=(-3, 0), factor=0)), 1)
        self.assertEqual(count_limit(show_with(holes=(0, 1), factor=0)), 2)
        self.assertEqual(count_limit(show_with(2, None, (4, 7), 0)), 8)

    def test_drawn_shows(self):
        kinds = {}
        for drawing in pasts(1500, 5600):
            view = drawing.pick(drawing.view, drawing.narrow_view)(5)
            if view.show is not None:
                limit = called(self, count_limit, view.show)
                self.assertEqual(limit, view.count_limit(), view.stages)
                kinds[type(limit), limit == 0] = True
        self.assertEqual(len(kinds), 3)

    def test_numbers_cut_off_at_it_are_equal_just_if_the_same_is_shown(self):
        for drawing in pasts(250, 5900):
            view = drawing.narrow_view(4)
            if view.show is None or drawing.wide:
                continue
            limit = count_limit(view.show)
            key = next(key for key in ("a", "ab", "b", "zz", "aa") if view.shows_key(key))
            rows = [[((0, key, many), 1)] if many else [] for many in range(31)]
            told = []
            for many in range(16):
                after = rows[many:many + 16]
                told.append([shown_by_counting(view.stages, differences(rows[many], later)) for later in after])
            for one in range(16):
                for other in range(16):
                    cut = [one, other] if limit is None else [min(one, limit), min(other, limit)]
                    self.assertIs(cut[0] == cut[1], told[one] == told[other], (view.stages, one, other))


class Token(unittest.TestCase):
    def test_the_nearest_integer(self):
        for show, expected in (
            (ALL, 0),
            (show_with(-5, 5), 0),
            (show_with(2), 2),
            (show_with(None, -2), -2),
            (show_with(holes=(0,)), 1),
            (show_with(holes=(0, 1)), -1),
            (show_with(holes=(-1, 0, 1)), 2),
            (show_with(-1, 5, (0, 1)), -1),
            (show_with(-1, 5, (0,)), 1),
            (show_with(-4, 9, (-1, 0, 1, 2, 3)), -2),
            (show_with(-4, 9, (-3, -2, -1, 0, 1, 2, 3)), 4),
            (show_with(-4, 9, (-3, -2, -1, 0, 1, 2, 3, 4)), -4),
            (show_with(10 ** 40), 10 ** 40),
        ):
            self.assertEqual(called(self, token, show), expected, show)

    def test_drawn_shows(self):
        kinds = {}
        for drawing in pasts(1500, 6200):
            view = drawing.pick(drawing.view, drawing.narrow_view)(6)
            if view.show is not None:
                found = called(self, token, view.show)
                self.assertEqual(found, view.token(), view.stages)
                kinds[(found > 0) - (found < 0)] = True
        self.assertEqual(len(kinds), 3)


class GreatBounds(unittest.TestCase):
    def stages(self, drawing, most):
        """Return sifts and scales with great bounds, most of them near one value as it is then scaled."""
        base = drawing.pick(0, drawing.random.randint(-10 ** 6, 10 ** 6), drawing.random.randint(-10 ** 9, 10 ** 9))
        factor = 1
        found = []
        for _ in range(drawing.random.randint(0, most)):
            if drawing.random.random() < 0.3:
                scale = drawing.pick(0, -1, 1, 2, -3, 7, -1000, 1000, drawing.random.randint(-1000, 1000))
                factor *= scale
                found.append(("scale", scale))
            else:
                comparison = drawing.pick("!=", "!=", *COMPARISONS)
                bound = base * factor + drawing.random.randint(-2, 2) * drawing.pick(1, factor)
                bound = drawing.pick(bound, bound, bound, drawing.random.randint(-10 ** 9, 10 ** 9))
                found.append(("sift", comparison, max(-10 ** 9, min(10 ** 9, bound))))
        return found

    def check_values(self, drawing, view):
        self.assertEqual(called(self, token, view.show), view.token())
        self.assertEqual(called(self, count_limit, view.show), view.count_limit())
        self.assertIs(shows_all(view.show), view.shows_all())
        bounds = [end for run in view.runs for end in run[:2] if end is not None] or [0]
        for _ in range(12):
            value = great_value(drawing, bounds)
            self.assertIs(is_shown(view.show, value), view.shows_value(value))
            self.assertEqual(class_above(view.show, value), view.class_of(value, "above"))
            self.assertEqual(class_below(view.show, value), view.class_of(value, "below"))

    def test_drawn_stages(self):
        some = 0
        for drawing in pasts(2500, 6500):
            stages = self.stages(drawing, 5)
            show = ALL
            for stage in stages:
                show = called(self, narrowed, show, stage)
            view = View(stages)
            self.assertEqual(show, view.show, stages)
            if show is not None:
                some += 1
                self.check_values(drawing, view)
        self.assertGreater(some, 1000)

    def test_one_or_two_bounds_a_hole_and_a_factor(self):
        for drawing in pasts(1000, 6600):
            low = drawing.random.randint(-10 ** 10, 10 ** 10)
            stages = drawing.pick([("sift", ">=", low)], [("sift", "<=", low)])
            if drawing.pick(True, False):
                high = low + drawing.pick(0, 1, 5, 10 ** 8, 10 ** 10)
                stages = [("sift", ">=", low), ("sift", "<=", high)]
            if drawing.pick(True, False):
                stages.append(("sift", "!=", low + drawing.random.randint(-3, 6)))
            stages.insert(drawing.random.randint(0, len(stages)), ("scale", drawing.pick(0, 1, -1, 3, -10)))
            show = ALL
            for stage in stages:
                show = narrowed(show, stage)
            view = View(stages)
            self.assertEqual(show, view.show, stages)
            if show is not None:
                self.check_values(drawing, view)


if __name__ == "__main__":
    unittest.main()
