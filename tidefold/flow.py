"""Flows: plans whose rows are put and taken one by one, while only what has to be kept of them is kept."""

from tidefold.bags import added, between, changes_of, not_final
from tidefold.errors import LateRow, MarkGoesBack, NoSuchSource
from tidefold.marks import kept_by, step_mark
from tidefold.meaning import result_of
from tidefold.operators import staged
from tidefold.plans import KEEPING
from tidefold.printing import sources
from tidefold.shows import steps_with_shows, with_shown_keys


class Flow:
    """A plan with the marks and the rows of its sources, and what its operators keep."""

    def __init__(self, plan):
        self.plan = plan
        self.steps = steps_with_shows(plan)
        self.marks = {name: 0 for name in sources(plan)}
        # The rows of each source that are not final.
        self.rows = {name: [] for name in sources(plan)}
        # What the operator of each step keeps, a bag for each of its inputs.
        self.held = [empty_bags(step) for step in self.steps]

    @staticmethod
    def opened(plan, state):
        """Return a flow with a state that a flow of this plan had."""
        marks, rows, kept = state
        flow = Flow(plan)
        flow.marks = {name: mark for name, mark in marks}
        flow.rows = {name: list(bag) for name, bag in rows}
        waiting = list(kept)
        for at, bags in enumerate(list(flow.held)):
            if bags != []:
                flow.held[at] = [list(bag) for bag in waiting.pop(0)]
        return flow

    def put(self, name, row):
        """Put a row into a source, and return the changes of the result."""
        self.check_row(name, row)
        return self.change(name, [(row, 1)])

    def take(self, name, row):
        """Take a row out of a source, and return the changes of the result."""
        self.check_row(name, row)
        return self.change(name, [(row, -1)])

    def move(self, name, mark):
        """Move the mark of a source, and return the mark of the plan then."""
        self.check_name(name)
        if mark < self.marks[name]:
            raise MarkGoesBack(f"a mark is moved back: {name}")
        self.marks[name] = mark
        self.rows[name] = not_final(self.rows[name], mark)
        found = []
        for at, (plan, places, show) in enumerate(self.steps):
            below = [found[place] for place in places]
            self.held[at] = kept_by(plan, self.held[at], below, show)
            found.append(step_mark(plan, self.marks, below, self.held[at]))
        return found[-1]

    def mark(self):
        """Return the mark of the plan."""
        return self.step_marks()[-1]

    def mark_of(self, name):
        """Return the mark of a source."""
        self.check_name(name)
        return self.marks[name]

    def kept(self):
        """Return the number of rows in all bags that operators keep."""
        return sum([len(bag) for bags in self.held for bag in bags])

    def state(self):
        """Return the marks, the rows of the sources that are not final, and what is kept, as tuples."""
        marks = [(name, self.marks[name]) for name in sorted(self.marks)]
        rows = [(name, tuple(self.rows[name])) for name in sorted(self.rows)]
        kept = [tuple([tuple(bag) for bag in bags]) for bags in self.held if bags != []]
        return tuple(marks), tuple(rows), tuple(kept)

    def fork(self):
        """Return a new flow with the same plan and state."""
        return Flow.opened(self.plan, self.state())

    def check_name(self, name):
        """Raise the error of a source that the plan does not have."""
        if name not in self.marks:
            raise NoSuchSource(f"the plan has no source {name}")

    def check_row(self, name, row):
        """Raise the error of a source that the plan does not have, or of a row that comes too late."""
        self.check_name(name)
        if row[0] < self.marks[name]:
            raise LateRow(f"a row lies before the mark of its source: {name}")

    def change(self, name, changes):
        """Change the rows of a source, and return the changes of the result."""
        marks = self.step_marks()
        # Raises NotThere for a row that is taken and not there, before anything is changed.
        self.rows[name] = added(self.rows[name], changes)
        found = []
        for at, (plan, places, _) in enumerate(self.steps):
            if plan[0] == "source":
                found.append(changes if plan[1] == name else [])
            else:
                below = [marks[place] for place in places]
                found.append(self.passed_on(at, [found[place] for place in places], below))
        return found[-1]

    def passed_on(self, at, changes, below):
        """Return the changes of the result of a step for changes of its inputs, which have the marks below."""
        plan, _, show = self.steps[at]
        if plan[0] == "stage":
            return staged(plan[1], changes[0])
        if plan[0] == "both":
            return changes_of(changes[0] + changes[1])
        if show is None:
            return []
        before = self.held[at]
        after = [added(bag, with_shown_keys(show, new)) for bag, new in zip(before, changes)]
        self.held[at] = kept_by(plan, after, below, show)
        return between(result_of(plan, before), result_of(plan, after))

    def step_marks(self):
        """Return the marks of the results of all steps."""
        found = []
        for (plan, places, _), bags in zip(self.steps, self.held):
            found.append(step_mark(plan, self.marks, [found[place] for place in places], bags))
        return found


def empty_bags(step):
    """Return what the operator of a step keeps at first: an empty bag for each of its inputs."""
    plan, places, _ = step
    return [[] for _ in places] if plan[0] in KEEPING else []
