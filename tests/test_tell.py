"""Telling two pasts apart (points 12, 29 to 35)."""

import unittest

from calling import called, check_form
from counting import result_by_counting
from drawn_pasts import another_past, pasts
from keeping import KEPT, View, changed, differences, shown_changes
from telling import TOLD, small_changes
from tidefold.kept import keep_sittings, keep_windows
from tidefold.kept_pairs import keep_less, keep_near, keep_without
from tidefold.shows import ALL, shows
from tidefold.tell_pairs import tell_less, tell_near, tell_without
from tidefold.tell_sittings import tell_sittings
from tidefold.tell_windows import tell_windows

TELL = {
    "windows": tell_windows, "sittings": tell_sittings, "near": tell_near, "without": tell_without, "less": tell_less
}
KEEP = {
    "windows": keep_windows, "sittings": keep_sittings, "near": keep_near, "without": keep_without, "less": keep_less
}
ONE = ("windows", "sittings")
TWO = ("near", "without", "less")
TO_3 = (None, None, 3, (), 1, None)
POSITIVE = (None, 1, None, (), 1, None)
ANY_AS_0 = (None, None, None, (), 0, None)


def rows(*written):
    """Return a bag of rows of the key x, written as (time, value) or (time, value, count)."""
    return [((part[0], "x", part[1]), part[2] if len(part) > 2 else 1) for part in written]


def told(test, word, parts, two, marks, show):
    """Return what tells two pasts apart, as a list of changes or None; check its form, and that arguments stay."""
    given = [past[0] for past in two] if word in ONE else [tuple(past) for past in two]
    found = called(test, TELL[word], *given, *marks, *parts, show)
    if found is None:
        return None
    if word in ONE:
        test.assertIs(type(found), list)
        found = (found,)
    test.assertIs(type(found), tuple)
    test.assertEqual(len(found), len(marks))
    for changes, mark in zip(found, marks):
        check_form(test, changes)
        test.assertTrue(all(row[0] >= mark for row, _ in changes), "no possible changes")
    return list(found)


def kept_alike(word, parts, two, marks, show):
    return KEEP[word](*two[0], *marks, *parts, show) == KEEP[word](*two[1], *marks, *parts, show)


class TellWindows(unittest.TestCase):
    def check(self, first, second, mark, parts, show, expected):
        self.assertEqual(called(self, tell_windows, first, second, mark, *parts, show), expected)
        if expected:
            self.assertIsNotNone(tell_windows(second, first, mark, *parts, show))

    def test_bags_that_are_kept_alike(self):
        self.check([], [], 5, (5, 5, "count"), ALL, None)
        self.check(rows((3, 1)), rows((4, 9)), 6, (5, 5, "count"), ALL, None)
        self.check(rows((3, 1)), rows((1, 1)), 4, (5, 5, "sum"), ALL, None)
        self.check(rows((3, 1)), rows((1, 9)), 4, (5, 5, "sum"), None, None)
        self.check(rows((3, 1, 4)), rows((1, 9, 5)), 4, (5, 5, "count"), TO_3, None)

    def test_counts(self):
        # 1 and 2 rows: with no row more nothing changes; with one more 2 and 3 are shown instead.
        self.check(rows((3, 1)), rows((3, 1, 2)), 4, (5, 5, "count"), ALL, rows((4, 0)))
        self.check(rows((3, 1, 4)), rows((3, 1, 3)), 4, (5, 5, "count"), TO_3, rows((4, 0)))
        self.check(rows((3, 1, 2)), [], 4, (5, 5, "count"), POSITIVE[:1] + (9, None, (), 1, None), rows((4, 0, 7)))

    def test_rows_that_are_not_final_are_taken_away(self):
        late = rows((4, 0, 2), (4, 7), (5, 3))
        self.check(rows((3, 1)) + late, rows((3, 1, 2)) + late, 4, (5, 5, "count"), ALL, rows((4, 0, -2), (4, 7, -1)))
        late = rows((4, 0, 2))
        show = (None, 1, None, (), 0, None)
        self.check(rows((3, 1)) + late, late, 4, (5, 5, "count"), show, rows((4, 0, -2)))

    def test_a_row_that_is_put_and_taken_away(self):
        late = rows((4, 0, 2))
        show = (None, 2, None, (), 0, None)
        self.check(rows((3, 1)) + late, late, 4, (5, 5, "count"), show, rows((4, 0, -1)))

    def test_sums(self):
        # The least value that is put is 0, less the greater sum, less 1.
        self.check(rows((3, 1)), rows((3, 2)), 4, (5, 5, "sum"), ALL, rows((4, -3)))
        self.check(rows((3, 0)), [], 4, (5, 5, "sum"), ALL, rows((4, -1)))

    def test_least_and_greatest(self):
        self.check(rows((3, 5)), rows((3, 6)), 4, (5, 5, "least"), ALL, rows((4, -1)))
        self.check(rows((3, 5)), rows((3, 6)), 4, (5, 5, "greatest"), ALL, rows((4, 6)))

    def test_the_least_key_and_the_last_group(self):
        first = [((0, "a", 1), 1), ((5, "a", 1), 1), ((9, "a", 4), 1), ((9, "b", 1), 1)]
        second = [((0, "a", 2), 1), ((5, "a", 2), 1), ((9, "a", 4), 1), ((9, "b", 2), 1)]
        self.check(first, second, 10, (20, 5, "sum"), ALL, [((10, "a", -7), 1)])


class TellSittings(unittest.TestCase):
    def check(self, first, second, mark, parts, show, expected):
        self.assertEqual(called(self, tell_sittings, first, second, mark, *parts, show), expected)

    def test_bags_that_are_kept_alike(self):
        self.check(rows((3, 1)), rows((4, 9)), 8, (3, "count"), ALL, None)
        self.check(rows((3, 1), (9, 0)), rows((4, 9), (9, 0)), 8, (3, "count"), ALL, None)
        self.check(rows((7, 1)), rows((7, 2)), 8, (3, "sum"), None, None)
        self.check(rows((3, 1), (7, 1)), rows((3, 2), (7, 1)), 8, (3, "sum"), ALL, None)

    def test_the_first_element_takes_away(self):
        late = rows((8, 4), (99, 1))
        self.check(rows((7, 1)) + late, rows((7, 2)) + late, 8, (3, "sum"), ALL, rows((8, 4, -1), (99, 1, -1)))

    def test_rows_are_put_at_the_mark(self):
        self.check(rows((7, 1)), rows((7, 2)), 8, (3, "sum"), ALL, rows((8, -3)))
        self.check(rows((7, 1)), rows((7, 1, 2)), 8, (3, "count"), ALL, rows((8, 0)))

    def test_rows_are_put_beyond_the_reach(self):
        # A row at 10 lies in reach of the row at 7, but not of that at 6.
        show = (None, 2, None, (), 0, None)
        self.check(rows((6, 1)), rows((7, 1)), 8, (3, "count"), show, rows((10, 0)))
        # Just beyond the reach of the row at 5, which may be that of the first or of the second bag.
        self.check(rows((5, 1)), rows((7, 1)), 8, (3, "count"), show, rows((9, 0)))
        self.check(rows((7, 1)), rows((5, 1)), 8, (3, "count"), show, rows((9, 0)))
        self.check(rows((6, 5)), rows((7, 5)), 8, (3, "least"), (None, None, 5, (), 0, None), rows((8, -1)))


class TellPairs(unittest.TestCase):
    def test_near(self):
        pair = (rows((4, 1)), [])
        for other, combination, show, expected in (
            (rows((4, 1)), "sum", ALL, None),
            (rows((4, 2)), "right", ALL, None),
            (rows((4, 2)), "left", ALL, ([], rows((6, 0)))),
            (rows((4, 2)), "sum", ALL, ([], rows((6, -3)))),
            (rows((4, 1, 2)), "right", ALL, ([], rows((6, -1)))),
            (rows((4, 1, 2)), "right", POSITIVE, ([], rows((6, 1)))),
            (rows((4, 2)), "difference", ALL, ([], rows((6, -1)))),
            ([], "difference", ANY_AS_0, ([], rows((6, -1)))),
            (rows((4, 2)), "difference", None, None),
        ):
            found = called(self, tell_near, pair, (other, []), 5, 5, 1, 2, combination, show)
            self.assertEqual(found, expected, (other, combination))
            found = called(self, tell_near, ([], pair[0]), ([], other), 5, 5, 2, 1, {
                "left": "right", "right": "left"
            }.get(combination, combination), show)
            if combination != "difference":
                self.assertEqual(found, expected and expected[::-1])

    def test_the_last_time_and_the_least_key_of_near(self):
        first = [((3, "b", 1), 1), ((4, "a", 1), 1), ((4, "b", 1), 1), ((4, "c", 1), 1)]
        second = [((3, "a", 1), 1), ((4, "a", 1), 1), ((4, "b", 1), 2), ((4, "c", 1), 3)]
        found = tell_near((first, []), (second, []), 5, 5, 9, 9, "left", ALL)
        self.assertEqual(found, ([], [((13, "b", 0), 1)]))

    def test_without(self):
        first = ([((3, "b", 1), 1), ((4, "a", 1), 1)], [])
        second = ([((3, "b", 1), 1), ((4, "a", 1), 2)], [])
        self.assertEqual(called(self, tell_without, first, second, 5, 0, ALL), ([], [((4, "a", 0), 1)]))
        self.assertIsNone(called(self, tell_without, first, second, 5, 5, ALL))
        self.assertIsNone(called(self, tell_without, first, second, 5, 0, None))
        right = [((4, "a", 7), 2), ((4, "a", 8), 1), ((4, "b", 7), 1)]
        found = called(self, tell_without, (first[0], right), (second[0], right), 5, 0, ALL)
        self.assertEqual(found, ([], [((4, "a", 7), -2), ((4, "a", 8), -1)]))
        first = ([], [((3, "b", 1), 1), ((4, "a", 1), 1)])
        second = ([], [((3, "b", 1), 1), ((4, "b", 1), 2)])
        show = (None, None, None, (0, 1), 1, None)
        self.assertEqual(called(self, tell_without, first, second, 0, 5, show), ([((4, "a", -1), 1)], []))

    def test_less(self):
        first, second = (rows((4, 1, 3)), []), (rows((4, 1)), [])
        self.assertEqual(called(self, tell_less, first, second, 5, 0, ALL), ([], rows((4, 1, 3))))
        self.assertIsNone(called(self, tell_less, first, second, 5, 5, ALL))
        # Where the right input has the row as often, it is taken away.
        first, second = (rows((4, 1, 3)), rows((4, 1, 3))), (rows((4, 1)), rows((4, 1, 3)))
        self.assertEqual(called(self, tell_less, first, second, 5, 0, ALL), ([], rows((4, 1, -3))))
        first, second = (rows((4, 1, 5)), rows((4, 1, 3))), (rows((4, 1, 5)), rows((4, 1)))
        self.assertEqual(called(self, tell_less, first, second, 0, 5, ALL), (rows((4, 1, -5)), []))


class Drawn(unittest.TestCase):
    def pair_of_pasts(self, drawing, word):
        """Return a view, parts, marks and two pasts, lists of bags, with the same rows from the marks on."""
        view = drawing.pick(drawing.view, drawing.narrow_view, drawing.narrow_view)(3)
        parts = drawing.parts_of(word)
        if word in ONE:
            marks = [drawing.mark()]
            first = [drawing.bag_near(marks[0], 7, 9)]
        else:
            marks = drawing.two_marks()
            first = drawing.two_bags(marks, 6)
        kept = KEPT[word](view, first, marks, parts)
        second = [another_past(drawing, *given) for given in zip(first, marks, kept)]
        return view, parts, marks, [first, second]

    def test_the_first_changes_of_the_list(self):
        for word in TELL:
            apart = 0
            for drawing in pasts(600, 11000):
                view, parts, marks, two = self.pair_of_pasts(drawing, word)
                found = told(self, word, parts, two, marks, view.show)
                self.assertEqual(found, TOLD[word](view, two, marks, parts), (word, parts, view.stages, marks, two))
                self.assertEqual(found is None, kept_alike(word, parts, two, marks, view.show))
                apart += found is not None
            self.assertTrue(100 < apart < 450, (word, apart))

    def test_sittings_with_hidden_results(self):
        """Where no result of final rows is shown, rows just in reach or just beyond it have to tell them apart."""
        beyond = 0
        for drawing in pasts(1200, 11200):
            bound = drawing.pick(1, 1, 2, 3)
            stages = [("sift", drawing.pick(">", ">", "!="), bound), ("scale", drawing.pick(0, 0, 1))]
            parts = (drawing.random.randint(1, 6), drawing.pick("count", "count", "sum", "greatest"))
            mark = drawing.mark()
            two = []
            for _ in range(2):
                time = mark - drawing.random.randint(1, parts[0] + 1)
                two.append([[((time, "a", drawing.pick(0, 1)), drawing.pick(1, 1, 2))]])
            view = View(stages)
            found = told(self, "sittings", parts, two, [mark], view.show)
            self.assertEqual(found, TOLD["sittings"](view, two, [mark], parts), (parts, stages, mark, two))
            beyond += bool(found and found[0] and found[0][0][0][0] > mark)
        self.assertGreater(beyond, 100)

    def test_changes_that_tell_apart_are_possible_and_others_do_not(self):
        for word in TELL:
            for drawing in pasts(300, 11400):
                view, parts, marks, two = self.pair_of_pasts(drawing, word)
                found = told(self, word, parts, two, marks, view.show)
                if found is not None:
                    first, second = [shown_changes(view, word, parts, past, found) for past in two]
                    self.assertNotEqual(first, second)
                    continue
                for _ in range(8):
                    drawn = [drawing.changes_near(bag, mark, 3) for bag, mark in zip(two[0], marks)]
                    first, second = [shown_changes(view, word, parts, past, drawn) for past in two]
                    self.assertEqual(first, second, (word, parts, view.stages, marks, two, drawn))

    def test_the_kept_final_rows_of_the_other_side_alone(self):
        for word in TWO:
            for drawing in pasts(300, 11600):
                view, parts, marks, two = self.pair_of_pasts(drawing, word)
                two[1][0] = list(two[0][0])
                found = told(self, word, parts, two, marks, view.show)
                self.assertEqual(found, TOLD[word](view, two, marks, parts), (word, parts, view.stages, marks, two))

    def test_right_inputs_with_rows_of_the_left_ones(self):
        apart = 0
        for drawing in pasts(600, 11800):
            view, parts, marks, two = self.pair_of_pasts(drawing, "less")
            for past in two:
                shared = [(row, drawing.random.randint(1, 4)) for row, _ in past[0] if row[0] < marks[1]]
                past[1] = [(row, count) for row, count in two[0][1] if row[0] >= marks[1]]
                past[1] = sorted(shared[drawing.random.randint(0, 1):] + past[1])
            found = told(self, "less", parts, two, marks, view.show)
            self.assertEqual(found, TOLD["less"](view, two, marks, parts), (view.stages, marks, two))
            apart += found is not None
        self.assertGreater(apart, 100)


class AllSmallChanges(unittest.TestCase):
    """Two pasts are kept alike just if tell_.. returns None, and then no small change tells them apart."""

    BEHIND = {"windows": 4, "sittings": 5, "near": 2, "without": 2, "less": 2}

    def drawn(self, drawing, word):
        view = drawing.narrow_view(3)
        mark = drawing.random.randint(-4, 4)
        marks = [mark] if word in ONE else [mark, mark + drawing.random.randint(-3, 3)]
        parts = {"windows": (drawing.random.randint(1, 8), drawing.random.randint(1, 8), drawing.pick(
            "count", "sum", "least", "greatest"
        )), "sittings": drawing.sitting_parts(4), "near": drawing.near_parts(4)}.get(word, ())
        first = [self.small_bag(drawing, mark, 6 if word in ONE else 5) for mark in marks]
        kept = KEPT[word](view, first, marks, parts)
        second = []
        for bag, mark, of_bag in zip(first, marks, kept):
            other = another_past(drawing, bag, mark, of_bag)
            second.append([pair for pair in other if pair[0][1] == "a"])
        return view, parts, marks, [first, second]

    def small_bag(self, drawing, mark, most):
        found = {}
        for _ in range(drawing.random.randint(0, most)):
            row = (mark + drawing.random.randint(-5, drawing.pick(-1, 2)), "a", drawing.random.randint(-2, 2))
            found[row] = drawing.pick(1, 1, 2)
        return sorted(found.items())

    def check(self, word, many, seed):
        apart = alike = 0
        for drawing in pasts(many, seed):
            view, parts, marks, two = self.drawn(drawing, word)
            found = told(self, word, parts, two, marks, view.show)
            place = (word, parts, view.stages, marks, two)
            self.assertEqual(found is None, kept_alike(word, parts, two, marks, view.show), place)
            if found is not None:
                apart += 1
                first, second = [shown_changes(view, word, parts, past, found) for past in two]
                self.assertNotEqual(first, second, place)
            elif two[0] != two[1] and alike < many // 6:
                alike += 1
                for changes in small_changes(two[0], marks, self.BEHIND[word]):
                    first, second = [shown_changes(view, word, parts, past, changes) for past in two]
                    self.assertEqual(first, second, place + (changes,))
        self.assertTrue(apart > many // 8 and alike > many // 10, (word, apart, alike))

    def test_windows(self):
        self.check("windows", 400, 12000)

    def test_sittings(self):
        self.check("sittings", 400, 12400)

    def test_near(self):
        self.check("near", 400, 12800)

    def test_without(self):
        self.check("without", 400, 13200)

    def test_less(self):
        self.check("less", 400, 13600)


class PlansOfOneOperator(unittest.TestCase):
    def test_pasts_of_sources(self):
        apart = {}
        for drawing in pasts(900, 14000):
            word = drawing.pick("once", *TELL)
            stages = drawing.view(3).stages
            parts = drawing.parts_of(word)
            marks = [drawing.mark()] if word in ONE + ("once",) else drawing.two_marks()
            first = [drawing.bag_near(mark, 6, 9) for mark in marks]
            second = [another_past(drawing, bag, mark, []) for bag, mark in zip(first, marks)]
            plan = (word,) + parts + (("source", "a"), ("source", "b"))[:len(marks)]
            for stage in stages:
                plan = ("stage", stage, plan)
            show, = shows(plan)
            if word == "once":
                found = None
            else:
                found = told(self, word, parts, [first, second], marks, show)
                self.assertEqual(found is None, kept_alike(word, parts, [first, second], marks, show), plan)
            tried = [found] if found else [
                [drawing.changes_near(bag, mark, 3) for bag, mark in zip(first, marks)] for _ in range(4)
            ]
            for changes in tried:
                results = [self.changes_of_result(plan, past, changes) for past in (first, second)]
                self.assertEqual(results[0] != results[1], found is not None, (plan, marks, first, second, changes))
            apart[word, found is None] = True
        self.assertEqual(len(apart), 11)

    def changes_of_result(self, plan, past, changes):
        before = dict(zip("ab", past))
        after = {name: changed(bag, more) for (name, bag), more in zip(before.items(), changes)}
        return differences(result_by_counting(plan, before), result_by_counting(plan, after))


class GreatNumbers(unittest.TestCase):
    def test_counts_beyond_a_great_bound(self):
        view = View([("sift", ">", 10 ** 9)])
        two = [[rows((3, 1, 2))], [rows((3, 1, 5))]]
        found = told(self, "windows", (5, 5, "count"), two, [4], view.show)
        self.assertEqual(found, TOLD["windows"](view, two, [4], (5, 5, "count")))
        self.assertEqual(found, [rows((4, 0, 10 ** 9 - 4))])


if __name__ == "__main__":
    unittest.main()
