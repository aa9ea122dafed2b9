"""Draws bags around marks, possible changes of them, later marks, and operators, for the tests."""

from counting import bag_by_counting, listed
from drawn import AGGREGATES, COMBINATIONS, KEYS, MANY_DIGITS, Drawing
from keeping import View

ONE_INPUT = ("once", "windows", "sittings")
TWO_INPUTS = ("near", "without", "less")


class Pasts(Drawing):
    """Draws around a mark that may lie below 0, or if it is wide also at a time of many digits."""

    def mark(self):
        return self.number(-9, 12)

    def row_near(self, mark, back, forth):
        """Return a row with a time at most so far from the mark."""
        return (mark + self.random.randint(-back, forth), self.pick("a", "a", *KEYS), self.number(-3, 3))

    def bag_near(self, mark, most, back=12, forth=4):
        """Return a bag with at most so many rows, most of them final."""
        found = []
        for _ in range(self.random.randint(0, most)):
            row = self.row_near(mark, back, self.pick(-1, forth))
            if found and self.random.random() < 0.4:
                time, key, value = self.pick(*found)
                row = self.pick((time, key, row[2]), (row[0], key, value), (row[0], key, -value))
            found.append(row)
        return sorted((row, self.count()) for row in set(found))

    def changes_near(self, bag, mark, most, forth=9):
        """Return possible changes: rows that are put, and rows that are not final taken away or partly so."""
        found = []
        for row, count in bag:
            if row[0] >= mark and self.random.random() < 0.5:
                found.append((row, -self.pick(count, 1, self.random.randint(1, count))))
        for _ in range(self.random.randint(0, most)):
            found.append((self.row_near(mark, 0, forth), self.count()))
        changes = bag_by_counting(found)
        there = dict(bag)
        return [(row, max(count, -there.get(row, 0))) for row, count in changes]

    def later_mark(self, mark):
        return mark + self.pick(0, 0, 1, 2, 3, self.random.randint(1, 12))

    def view(self, most):
        """Return what up to so many stages show, mostly some rows."""
        view = View(self.stages(most))
        if view.show is None and self.random.random() < 0.8:
            return self.view(most)
        return view

    def narrow_view(self, most):
        """Return what up to so many stages show, of which most are sifts near 0."""
        stages = []
        for _ in range(self.random.randint(0, most)):
            if self.random.random() < 0.75:
                comparison = self.pick("!=", "!=", "<", "<=", ">", ">=", "=")
                stages.append(("sift", comparison, self.random.randint(-3, 3)))
            else:
                stages.append(self.pick(("scale", 0), ("scale", 0), ("scale", -1), ("scale", 2), self.stage()))
        view = View(stages)
        return self.narrow_view(most) if view.show is None and self.random.random() < 0.9 else view

    def window_parts(self, most_size=12, most_slide=5):
        return (
            self.random.randint(1, most_size), self.random.randint(1, most_slide), self.pick(*AGGREGATES)
        )

    def sitting_parts(self, most_gap=6):
        return (self.random.randint(0, most_gap), self.pick(*AGGREGATES))

    def near_parts(self, most=5):
        return (self.random.randint(0, most), self.random.randint(0, most), self.pick(*COMBINATIONS))

    def parts_of(self, word):
        """Return what an operator is told beside its inputs."""
        if word == "windows":
            return self.window_parts()
        if word == "sittings":
            return self.sitting_parts()
        return self.near_parts() if word == "near" else ()

    def two_marks(self, apart=6):
        mark = self.mark()
        return [mark, mark + self.random.randint(-apart, apart)]

    def two_bags(self, marks, most):
        """Return two bags with many equal rows, keys and times."""
        bags = [self.bag_near(mark, most, 8) for mark in marks]
        shared = [(row, self.count()) for row, _ in bags[0] if self.random.random() < 0.4]
        moved = [((row[0], row[1], self.pick(row[2], self.number(-3, 3))), count) for row, count in shared]
        return [bags[0], listed(dict(bags[1][:max(0, most - len(moved))] + moved))]


def pasts(many, first_seed):
    """Return so many drawings, every third one of them wide."""
    return [Pasts(first_seed + at, at % 3 == 2) for at in range(many)]


def great_value(drawing, bounds):
    """Return a value that is great, or beside one of these bounds."""
    near = drawing.pick(*bounds, 0, MANY_DIGITS, drawing.random.randint(-10 ** 9, 10 ** 9))
    return near + drawing.random.randint(-2, 2)


def great_stages(drawing):
    """Return up to three sifts with great bounds, sometimes scaled, and the bounds."""
    random = drawing.random
    base = drawing.pick(3, 400, random.randint(-10 ** 9, 10 ** 9))
    bounds = [base + random.randint(-3, 3) for _ in range(3)]
    stages = [("sift", drawing.pick("!=", "<", "<=", ">", ">=", "="), bound) for bound in bounds]
    stages = stages[:random.randint(0, 3)]
    if drawing.pick(True, False):
        stages.append(("scale", drawing.pick(0, -1, 1000)))
    return stages, bounds


def great_bag(drawing, mark, reach, bounds):
    """Return a bag with great values and counts, most of it before the mark."""
    random = drawing.random
    found = {}
    for _ in range(random.randint(0, 8)):
        time = mark + random.randint(-drawing.pick(3, reach), drawing.pick(-1, 5))
        found[(time, drawing.pick("a", "a", "b"), great_value(drawing, bounds))] = random.randint(1, 400)
    return bag_by_counting(list(found.items()))


def bent(drawing, bag, mark):
    """Return a bag with the same rows from the mark on, of which a few of the others differ a little."""
    counts = dict(bag)
    past = [row for row, _ in bag if row[0] < mark]
    for _ in range(drawing.random.randint(1, 2)):
        if past and drawing.random.random() < 0.7:
            row = drawing.pick(*past)
            many = counts.pop(row, 0)
            time, key, value = row
            row = drawing.pick((time, key, value), (time - 1, key, value), (time, key, value + 1), (time, key, -value))
            many += drawing.pick(-1, 0, 0, 1)
        else:
            row, many = drawing.row_near(mark, 9, -1), 1
        if many > 0:
            counts[row] = many
    return sorted(counts.items())


def another_past(drawing, bag, mark, kept):
    """Return a bag with the same rows from the mark on: bent, drawn, or what is kept of the bag."""
    late = [pair for pair in bag if pair[0][0] >= mark]
    kind = drawing.random.random()
    if kind < 0.5:
        return bent(drawing, bag, mark)
    if kind < 0.7:
        return [pair for pair in drawing.bag_near(mark, 6, 9, -1)] + late
    if kind < 0.75:
        return list(bag)
    past = [pair for pair in kept if pair[0][0] < mark]
    return past + late
