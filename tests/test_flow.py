"""Flows (points 18 and 36 to 39)."""

import unittest
from copy import deepcopy

from calling import check_form
from counting import bag_by_counting
from drawn_pasts import pasts
from keeping import plan_told
from tidefold.errors import FlowError, LateRow, MarkGoesBack, NoSuchSource, NotThere
from tidefold.flow import Flow
from tidefold.marks import plan_mark
from tidefold.parsing import parse_plan
from tidefold.printing import sources

NAMES = ("a", "b", "c")


def flow_of(text):
    return Flow(parse_plan(text))


def state_by_counting(plan, tables, marks):
    """Return the state of a flow to which all rows of tables were put, the mark of its plan, and its result."""
    bag, mark, kept = plan_told(plan, tables, marks)
    names = sorted(tables)
    late = [(name, tuple(pair for pair in tables[name] if pair[0][0] >= marks[name])) for name in names]
    held = tuple(tuple(tuple(of_input) for of_input in bags) for bags in kept)
    return (tuple((name, marks[name]) for name in names), tuple(late), held), mark, bag


class Past:
    """What was done to a flow, told without it: the rows of the sources, their marks, and the changes returned."""

    def __init__(self, plan):
        self.plan = plan
        self.tables = {name: [] for name in sources(plan)}
        self.marks = {name: 0 for name in self.tables}

    def late_rows(self, name):
        return [row for row, _ in self.tables[name] if row[0] >= self.marks[name]]

    def drawn_deed(self, drawing):
        """Return a deed that can be done, as (word, name, row or mark)."""
        name = drawing.pick(*self.tables)
        mark = self.marks[name]
        late = self.late_rows(name)
        word = drawing.pick("put", "put", "put", "take", "move")
        if word == "move":
            return (word, name, mark + drawing.pick(0, 1, 1, 2, 3, 5))
        if word == "take" and late:
            return (word, name, drawing.pick(*late))
        others = [row for rows in self.tables.values() for row, _ in rows if row[0] >= mark]
        if others and drawing.random.random() < 0.4:
            return ("put", name, drawing.pick(*others))
        time = mark + drawing.random.randint(0, drawing.pick(2, 7))
        return ("put", name, (time, drawing.pick("a", "a", "b", "ab"), drawing.number(-3, 3)))

    def do(self, deed):
        word, name, what = deed
        if word == "move":
            self.marks[name] = what
        else:
            self.tables[name] = bag_by_counting(self.tables[name] + [(what, 1 if word == "put" else -1)])


def done(flow, deed):
    """Do a deed to a flow, and return what it returns."""
    word, name, what = deed
    return {"put": flow.put, "take": flow.take, "move": flow.move}[word](name, what)


def drawn_plan(drawing, levels=4):
    return drawing.plan(drawing.random.randint(1, 12), levels)


class Examples(unittest.TestCase):
    def test_the_example_of_the_interface(self):
        flow = flow_of("a | sittings 30 count")
        self.assertEqual(flow.put("a", (100, "ann", 0)), [((130, "ann", 1), 1)])
        self.assertEqual(flow.put("a", (125, "ann", 0)), [((130, "ann", 1), -1), ((155, "ann", 2), 1)])
        self.assertEqual(flow.move("a", 140), 155)
        self.assertEqual(flow.state(), ((("a", 140),), (("a", ()),), (((((125, "ann", 0), 2),),),)))

    def test_a_new_flow(self):
        flow = flow_of("less(b, a | once) | windows 10 5 sum")
        self.assertEqual(flow.state(), ((("a", 0), ("b", 0)), (("a", ()), ("b", ())), (((),), ((), ()), ((),))))
        self.assertEqual(flow.kept(), 0)
        self.assertEqual(flow.mark(), 4)
        self.assertEqual(flow.mark_of("b"), 0)

    def test_a_source_alone(self):
        flow = flow_of("a")
        row = (3, "x", 7)
        self.assertEqual(flow.put("a", row), [(row, 1)])
        self.assertEqual(flow.put("a", row), [(row, 1)])
        self.assertEqual(flow.take("a", row), [(row, -1)])
        self.assertEqual(flow.state(), ((("a", 0),), (("a", ((row, 1),)),), ()))
        self.assertEqual(flow.kept(), 0)
        self.assertEqual(flow.move("a", 4), 4)
        self.assertEqual(flow.state(), ((("a", 4),), (("a", ()),), ()))

    def test_stages_and_both_pass_changes_on(self):
        flow = flow_of("both(a | scale -2, b | rekey k) | later 5")
        self.assertEqual(flow.put("a", (3, "x", 7)), [((8, "x", -14), 1)])
        self.assertEqual(flow.put("b", (3, "x", 7)), [((8, "k", 7), 1)])
        self.assertEqual(flow.take("b", (3, "x", 7)), [((8, "k", 7), -1)])
        self.assertEqual(flow.move("b", 9), 5)
        self.assertEqual(flow.move("a", 4), 9)

    def test_a_source_that_stands_at_two_places(self):
        row = (3, "x", 7)
        self.assertEqual(flow_of("both(a, a)").put("a", row), [(row, 2)])
        self.assertEqual(flow_of("less(a, a)").put("a", row), [])
        flow = flow_of("near 0 5 sum(a, a)")
        self.assertEqual(flow.put("a", row), [((3, "x", 14), 1)])
        self.assertEqual(flow.put("a", row), [((3, "x", 14), 3)])
        self.assertEqual(flow.kept(), 2)

    def test_an_operator_of_which_nothing_is_shown(self):
        flow = flow_of("a | windows 5 5 sum | sift > 3 | sift < 4 | once")
        self.assertEqual(flow.put("a", (3, "x", 7)), [])
        self.assertEqual(flow.state()[2], (((),), ((),)))
        self.assertEqual(flow.kept(), 0)

    def test_keys_that_are_not_shown_are_not_kept(self):
        flow = flow_of("a | once | only y")
        self.assertEqual(flow.put("a", (3, "x", 7)), [])
        self.assertEqual(flow.put("a", (3, "y", 7)), [((3, "y", 7), 1)])
        self.assertEqual(flow.state()[2], (((((3, "y", 7), 1),),),))
        self.assertEqual(flow.take("a", (3, "x", 7)), [])
        self.assertEqual(flow.state()[1], (("a", (((3, "y", 7), 1),)),))

    def test_a_row_counts_once_in_each_bag(self):
        flow = flow_of("near 9 9 sum(a, a | once)")
        for _ in range(3):
            flow.put("a", (3, "x", 7))
        self.assertEqual(flow.kept(), 3)

    def test_the_order_of_kept_bags(self):
        flow = flow_of("without(a | once | windows 5 5 sum, b | sittings 3 count) | once")
        flow.put("a", (1, "x", 2))
        flow.put("b", (2, "y", 3))
        a, b = (((1, "x", 2), 1),), (((2, "y", 3), 1),)
        windows, sittings = (((4, "x", 2), 1),), (((5, "y", 1), 1),)
        self.assertEqual(flow.state()[2], ((a,), (a,), (b,), (windows, sittings), (windows,)))
        self.assertEqual(flow.kept(), 6)

    def test_the_mark_that_a_source_has(self):
        flow = flow_of("a | windows 5 5 sum")
        flow.put("a", (7, "x", 1))
        self.assertEqual(flow.move("a", 0), 4)
        self.assertEqual(flow.move("a", 6), 9)
        before = flow.state()
        self.assertEqual(flow.move("a", 6), 9)
        self.assertEqual(flow.state(), before)
        self.assertEqual(flow.put("a", (6, "x", 1)), [((9, "x", 1), -1), ((9, "x", 2), 1)])


class DrawnFlows(unittest.TestCase):
    def check_now(self, flow, past, place):
        """Check a flow against all rows that were put and not taken, and return the result of these."""
        state, mark, bag = state_by_counting(past.plan, past.tables, past.marks)
        self.assertEqual(flow.state(), state, place)
        self.assertEqual(flow.kept(), sum(len(of_input) for bags in state[2] for of_input in bags), place)
        self.assertEqual(flow.mark(), mark, place)
        self.assertEqual(plan_mark(past.plan, past.tables, past.marks), mark, place)
        for name, at in past.marks.items():
            self.assertEqual(flow.mark_of(name), at)
        return bag

    def test_all_that_is_told(self):
        words = {}
        for drawing in pasts(1500, 15000):
            plan = drawn_plan(drawing)
            flow, past = Flow(plan), Past(plan)
            told, deeds = [], []
            greatest = self.mark_at_first(flow, past)
            for _ in range(drawing.random.randint(1, 14)):
                deed = past.drawn_deed(drawing)
                deeds.append(deed)
                past.do(deed)
                found = done(flow, deed)
                if deed[0] == "move":
                    self.assertGreaterEqual(found, greatest, (plan, deeds))
                    self.assertEqual(found, flow.mark())
                    greatest = found
                else:
                    check_form(self, found)
                    self.assertTrue(all(row[0] >= greatest for row, _ in found), (plan, deeds))
                    told += found
                bag = self.check_now(flow, past, (plan, deeds))
                self.assertGreaterEqual(flow.mark(), greatest)
                self.assertEqual(bag_by_counting(told), bag, (plan, deeds))
            words[plan[0]] = words.get(plan[0], 0) + (told != [])
        self.assertTrue(len(words) == 9 and min(words.values()) > 20, words)

    def mark_at_first(self, flow, past):
        found = flow.mark()
        self.assertEqual(found, plan_told(past.plan, past.tables, past.marks)[1])
        return found

    def test_higher_plans(self):
        for drawing in pasts(120, 16600):
            plan = drawing.plan(20, 10)
            flow, past = Flow(plan), Past(plan)
            told = []
            for _ in range(10):
                deed = past.drawn_deed(drawing)
                past.do(deed)
                found = done(flow, deed)
                told += found if deed[0] != "move" else []
            self.assertEqual(bag_by_counting(told), self.check_now(flow, past, plan))

    def test_two_ways(self):
        for drawing in pasts(500, 16800):
            plan = drawn_plan(drawing)
            flow, past = Flow(plan), Past(plan)
            for _ in range(drawing.random.randint(4, 14)):
                deed = past.drawn_deed(drawing)
                past.do(deed)
                done(flow, deed)
            other = self.put_in_another_order(drawing, past)
            self.assertEqual(other.state(), flow.state(), plan)
            self.assertEqual(other.kept(), flow.kept())
            self.assertEqual(other.mark(), flow.mark())

    def put_in_another_order(self, drawing, past):
        """Return a flow to which all rows are put, mixed with some that are taken again, before marks are moved."""
        flow = Flow(past.plan)
        rows = [(name, row) for name, bag in past.tables.items() for row, count in bag for _ in range(min(count, 40))]
        drawing.random.shuffle(rows)
        for at, (name, row) in enumerate(rows):
            flow.put(name, row)
            if at % 3 == 0:
                flow.put(name, (row[0] + 1, "ab", 5))
                flow.put(name, row)
                flow.take(name, (row[0] + 1, "ab", 5))
                flow.take(name, row)
        steps = []
        for name, mark in past.marks.items():
            between = sorted(drawing.random.randint(0, mark) for _ in range(drawing.random.randint(0, 3)))
            steps.append([(name, at) for at in between + [mark]])
        while steps:
            moves = drawing.pick(*steps)
            flow.move(*moves.pop(0))
            steps = [left for left in steps if left]
        return flow

    def test_forks_and_opened_flows(self):
        for drawing in pasts(400, 17200):
            plan = drawn_plan(drawing)
            flow, past = Flow(plan), Past(plan)
            deeds = []
            for _ in range(drawing.random.randint(2, 14)):
                deeds.append(past.drawn_deed(drawing))
                past.do(deeds[-1])
            half = drawing.random.randint(0, len(deeds))
            for deed in deeds[:half]:
                done(flow, deed)
            state = flow.state()
            kept_state = deepcopy(state)
            others = [flow.fork(), Flow.opened(plan, state), Flow.opened(plan, state)]
            answers = [self.answers(flow, deeds[half:])]
            for other in others[:2]:
                self.assertEqual(others[2].state(), state)
                answers.append(self.answers(other, deeds[half:]))
            self.assertEqual(answers[1:], answers[:1] * 2, (plan, deeds, half))
            self.assertEqual(state, kept_state)
            self.assertEqual(others[2].state(), state)
            self.assertEqual(self.answers(others[2], deeds[half:]), answers[0])

    def answers(self, flow, deeds):
        found = [(flow.state(), flow.mark(), flow.kept())]
        for deed in deeds:
            found.append((done(flow, deed), flow.state(), flow.mark(), flow.kept()))
        return found

    def test_forks_do_not_change_one_another(self):
        flow = flow_of("near 1 1 sum(a, b | windows 5 5 count)")
        flow.put("a", (4, "x", 1))
        flow.put("b", (4, "x", 1))
        fork = flow.fork()
        before = flow.state()
        self.assertEqual(fork.state(), before)
        fork.put("b", (4, "x", 1))
        fork.move("a", 9)
        self.assertEqual(flow.state(), before)
        after = fork.state()
        flow.take("a", (4, "x", 1))
        flow.move("b", 7)
        self.assertEqual(fork.state(), after)

    def test_the_state_tells_the_marks_and_just_the_rows_that_are_not_final(self):
        for drawing in pasts(400, 17600):
            plan = drawn_plan(drawing, 2)
            flow, past = Flow(plan), Past(plan)
            for _ in range(8):
                deed = past.drawn_deed(drawing)
                past.do(deed)
                done(flow, deed)
                marks, late, _ = flow.state()
                self.assertEqual(list(marks), sorted(past.marks.items()))
                self.assertEqual([name for name, _ in late], sorted(past.tables))
                for name, bag in late:
                    self.assertEqual(list(bag), [pair for pair in past.tables[name] if pair[0] in past.late_rows(name)])

    def test_lists_are_new_and_arguments_stay(self):
        for drawing in pasts(200, 18000):
            plan = drawn_plan(drawing, 3)
            before = deepcopy(plan)
            flow, past = Flow(plan), Past(plan)
            for _ in range(8):
                deed = past.drawn_deed(drawing)
                past.do(deed)
                given = deepcopy(deed)
                found = done(flow, deed)
                self.assertEqual(deed, given)
                if isinstance(found, list):
                    found.clear()
                    found.append("one more")
                self.check_now(flow, past, plan)
            self.assertEqual(plan, before)


class WrongCalls(unittest.TestCase):
    def refuses(self, flow, error, word, *arguments):
        before = (flow.state(), flow.mark(), flow.kept())
        with self.assertRaises(FlowError) as caught:
            getattr(flow, word)(*arguments)
        self.assertIs(type(caught.exception), error)
        self.assertEqual((flow.state(), flow.mark(), flow.kept()), before)

    def test_each_error(self):
        flow = flow_of("both(a, b) | windows 5 5 sum")
        flow.put("a", (7, "x", 1))
        flow.move("a", 5)
        row, late = (7, "x", 1), (4, "x", 1)
        for name in ("c", "", "A", "ab"):
            self.refuses(flow, NoSuchSource, "put", name, row)
            self.refuses(flow, NoSuchSource, "take", name, row)
            self.refuses(flow, NoSuchSource, "move", name, 9)
            self.refuses(flow, NoSuchSource, "mark_of", name)
        self.refuses(flow, LateRow, "put", "a", late)
        self.refuses(flow, LateRow, "take", "a", late)
        self.refuses(flow, LateRow, "put", "b", (-1, "x", 1))
        self.refuses(flow, NotThere, "take", "a", (7, "x", 2))
        self.refuses(flow, NotThere, "take", "a", (7, "y", 1))
        self.refuses(flow, NotThere, "take", "a", (8, "x", 1))
        self.refuses(flow, NotThere, "take", "b", row)
        self.refuses(flow, MarkGoesBack, "move", "a", 4)
        self.refuses(flow, MarkGoesBack, "move", "b", -1)
        flow.put("a", (5, "x", 1))
        flow.take("a", row)

    def test_several_reasons_at_once(self):
        flow = flow_of("a | once")
        flow.move("a", 5)
        self.refuses(flow, NoSuchSource, "put", "b", (4, "x", 1))
        self.refuses(flow, NoSuchSource, "take", "b", (4, "x", 1))
        self.refuses(flow, NoSuchSource, "move", "b", -4)
        self.refuses(flow, LateRow, "take", "a", (4, "x", 1))

    def test_a_row_that_was_put_and_taken_again(self):
        flow = flow_of("a | once")
        row = (3, "x", 1)
        flow.put("a", row)
        flow.put("a", row)
        flow.take("a", row)
        flow.take("a", row)
        self.refuses(flow, NotThere, "take", "a", row)
        flow.put("a", row)
        flow.move("a", 4)
        self.refuses(flow, LateRow, "take", "a", row)

    def test_names_and_numbers_of_many_digits(self):
        flow = flow_of("a | windows 5 5 sum")
        far = 10 ** 5000
        flow.move("a", far)
        self.refuses(flow, MarkGoesBack, "move", "a", far - 1)
        self.refuses(flow, LateRow, "put", "a", (-far, "x", far))
        self.refuses(flow, NotThere, "take", "a", (far, "x", far))

    def test_drawn_deeds(self):
        many = {}
        for drawing in pasts(500, 18200):
            plan = drawn_plan(drawing, 3)
            flow, past = Flow(plan), Past(plan)
            for _ in range(10):
                self.try_wrong_deeds(drawing, flow, past, many)
                deed = past.drawn_deed(drawing)
                past.do(deed)
                done(flow, deed)
                self.assertEqual(flow.state(), state_by_counting(plan, past.tables, past.marks)[0])
        self.assertEqual(len(many), 4)
        self.assertGreater(min(many.values()), 300)

    def try_wrong_deeds(self, drawing, flow, past, many):
        name = drawing.pick(*NAMES)
        word = drawing.pick("put", "take", "move")
        mark = past.marks.get(name, 0)
        time = mark + drawing.random.randint(-3, 3)
        row = (time, drawing.pick("a", "b"), drawing.pick(0, 1))
        error = None
        if name not in past.marks:
            error = NoSuchSource
        elif word == "move":
            error = MarkGoesBack if time < mark else None
        elif time < mark:
            error = LateRow
        elif word == "take" and dict(past.tables[name]).get(row, 0) == 0:
            error = NotThere
        if error:
            many[error] = many.get(error, 0) + 1
            self.refuses(flow, error, word, name, time if word == "move" else row)


if __name__ == "__main__":
    unittest.main()
