"""Bags and changes (points 3, 4 and 5)."""

import unittest

from calling import called, check_form
from counting import bag_by_counting, listed, summed
from drawn import MANY_DIGITS, drawings
from tidefold.bags import added, between, changes_of, count_of, final, not_final
from tidefold.errors import FlowError, NotThere

A = (1, "a", 5)
B = (1, "b", -5)
C = (2, "a", 0)


class ChangesOf(unittest.TestCase):
    def test_nothing(self):
        self.assertEqual(called(self, changes_of, []), [])

    def test_counts_are_added(self):
        self.assertEqual(called(self, changes_of, [(A, 1), (B, 2), (A, 3)]), [(A, 4), (B, 2)])
        self.assertEqual(changes_of([(A, 1), (A, -3)]), [(A, -2)])

    def test_what_becomes_0_is_left_out(self):
        self.assertEqual(changes_of([(A, 1), (A, -1)]), [])
        self.assertEqual(changes_of([(A, 0)]), [])
        self.assertEqual(changes_of([(A, 2), (B, 1), (A, -3), (A, 1)]), [(B, 1)])

    def test_the_order_of_rows(self):
        rows = [
            (-(10 ** 50), "z", 9),
            (-2, "z", 9),
            (-1, "b", 9),
            (0, "a", -2),
            (0, "a", -1),
            (0, "a", 10),
            (0, "aa", -9),
            (0, "ab", -9),
            (0, "abcdefgh", -9),
            (0, "b", -(10 ** 50)),
            (0, "b", -9),
            (9, "a", 0),
            (10, "a", 0),
        ]
        self.assertEqual(called(self, changes_of, [(row, 1) for row in reversed(rows)]), [(row, 1) for row in rows])

    def test_drawn_pairs(self):
        for drawing in drawings(600, 4100):
            pairs = drawing.pairs(drawing.random.randint(0, 14))
            found = called(self, changes_of, pairs)
            check_form(self, found)
            self.assertEqual(found, bag_by_counting(pairs))


class Added(unittest.TestCase):
    def test_ordinary_bags(self):
        self.assertEqual(called(self, added, [(A, 1)], [(B, 2)]), [(A, 1), (B, 2)])
        self.assertEqual(called(self, added, [(A, 3), (C, 1)], [(A, -1), (B, 1)]), [(A, 2), (B, 1), (C, 1)])

    def test_what_becomes_0_is_left_out(self):
        self.assertEqual(called(self, added, [(A, 3), (C, 1)], [(A, -3)]), [(C, 1)])
        self.assertEqual(called(self, added, [(A, 1)], [(A, -1)]), [])

    def test_empty_ones(self):
        self.assertEqual(called(self, added, [], []), [])
        self.assertEqual(called(self, added, [(A, 1)], []), [(A, 1)])
        self.assertEqual(called(self, added, [], [(A, 1)]), [(A, 1)])

    def check_not_there(self, bag, changes):
        before = (list(bag), list(changes))
        with self.assertRaises(NotThere) as caught:
            added(bag, changes)
        self.assertIsInstance(caught.exception, FlowError)
        self.assertEqual((bag, changes), before)

    def test_rows_that_are_not_there(self):
        self.check_not_there([], [(A, -1)])
        self.check_not_there([(A, 1)], [(A, -2)])
        self.check_not_there([(A, 1)], [(B, -1)])
        self.check_not_there([(A, 5), (B, 5)], [(A, -5), (B, -6), (C, 1)])
        self.check_not_there([((1, "a", 4), 1)], [(A, -1)])
        self.check_not_there([((0, "a", 5), 1)], [(A, -1)])
        self.check_not_there([(A, 10 ** 60)], [(A, -(10 ** 60) - 1)])

    def test_a_row_that_is_not_there_may_have_very_many_digits(self):
        row = (10 ** 5000, "a", -(10 ** 5000))
        self.check_not_there([(row, 1)], [(row, -(10 ** 5000))])

    def test_drawn_bags(self):
        refused = 0
        for drawing in drawings(800, 4200):
            bag = drawing.bag(7)
            changes = drawing.changes(7)
            if drawing.pick(True, False):
                # Of the rows of the bag, about as many as there are.
                taken = [(row, -drawing.pick(count, count, 1, count + 1)) for row, count in bag]
                changes = listed(summed(changes + drawing.random.sample(taken, len(taken) // 2)))
            expected = bag_by_counting(bag + changes)
            if any(count < 0 for _, count in expected):
                refused += 1
                self.check_not_there(bag, changes)
            else:
                found = called(self, added, bag, changes)
                check_form(self, found)
                self.assertEqual(found, expected)
        self.assertTrue(200 < refused < 700, refused)


class Between(unittest.TestCase):
    def test_ordinary_bags(self):
        self.assertEqual(called(self, between, [(A, 1), (B, 2)], [(A, 3), (C, 1)]), [(A, 2), (B, -2), (C, 1)])

    def test_what_stays_is_left_out(self):
        self.assertEqual(called(self, between, [(A, 1), (B, 2)], [(A, 1), (B, 2)]), [])
        self.assertEqual(called(self, between, [], []), [])

    def test_drawn_bags(self):
        for drawing in drawings(400, 4300):
            before = drawing.bag(7)
            after = drawing.bag(7)
            if drawing.pick(True, False):
                after = bag_by_counting(before[:4] + after[:3])
            found = called(self, between, before, after)
            check_form(self, found)
            counts = {}
            for row in [row for row, _ in before + after]:
                counts[row] = dict(after).get(row, 0) - dict(before).get(row, 0)
            self.assertEqual(found, listed(counts))
            self.assertEqual(added(before, found), after)


class Final(unittest.TestCase):
    def test_a_row_at_the_mark_is_not_final(self):
        bag = [((-1, "a", 0), 1), ((0, "a", 0), 2), ((1, "a", 0), 3)]
        self.assertEqual(called(self, final, bag, 0), bag[:1])
        self.assertEqual(called(self, not_final, bag, 0), bag[1:])
        self.assertEqual(called(self, final, bag, -1), [])
        self.assertEqual(called(self, not_final, bag, -1), bag)
        self.assertEqual(called(self, final, bag, 2), bag)
        self.assertEqual(called(self, not_final, bag, 2), [])
        self.assertEqual(called(self, final, [], 0), [])
        self.assertEqual(called(self, not_final, [], 0), [])

    def test_drawn_bags(self):
        for drawing in drawings(400, 4400):
            bag = drawing.bag(8)
            mark = drawing.number(-8, 11)
            before = [pair for pair in bag if pair[0][0] - mark < 0]
            behind = [pair for pair in bag if pair[0][0] - mark >= 0]
            self.assertEqual(called(self, final, bag, mark), before)
            self.assertEqual(called(self, not_final, bag, mark), behind)


class CountOf(unittest.TestCase):
    def test_rows_that_are_there_and_rows_that_are_not(self):
        bag = [(A, 3), (B, MANY_DIGITS), (C, 1)]
        self.assertEqual(called(self, count_of, bag, A), 3)
        self.assertEqual(called(self, count_of, bag, B), MANY_DIGITS)
        self.assertEqual(called(self, count_of, bag, C), 1)
        for row in ((1, "a", 4), (1, "c", 5), (0, "a", 5), (1, "aa", 5), (3, "a", 0)):
            self.assertEqual(called(self, count_of, bag, row), 0)
        self.assertEqual(count_of([], A), 0)

    def test_drawn_bags(self):
        for drawing in drawings(400, 4500):
            bag = drawing.bag(8)
            rows = [row for row, _ in bag] + [drawing.row()]
            for row in rows:
                expected = sum(count for other, count in bag if other == row)
                self.assertEqual(called(self, count_of, bag, row), expected)


if __name__ == "__main__":
    unittest.main()
