"""Reads the tokens of a text by the grammar of plans, whatever its numbers and its size."""

from tidefold.errors import PlanError
from tidefold.plans import PAIRS, SINGLES, STAGES
from tidefold.tokens import tokens

LONGEST_NAME = 8
AGGREGATES = ("count", "sum", "least", "greatest")
COMBINATIONS = ("left", "right", "sum", "difference")
COMPARISONS = ("<", "<=", "=", "!=", ">=", ">")

# The parts behind the first word of a stage or a pair. A part that is neither
# names nor one of several words or signs is a number, called by what it means.
PARTS = {
    "sift": ("comparison", "bound"),
    "only": ("names",),
    "rekey": ("name",),
    "scale": ("factor",),
    "later": ("delay",),
    "once": (),
    "windows": ("size", "slide", "aggregate"),
    "sittings": ("gap", "aggregate"),
    "both": (),
    "less": (),
    "without": (),
    "near": ("before", "after", "combination"),
}


class Reader:
    """Reads the tokens of a text from the first to the last."""

    def __init__(self, text):
        # The end stands behind the tokens like one more, which fits nowhere.
        self.found = tokens(text) + [("end", "", len(text))]
        self.at = 0
        # The numbers that were read, as (part, value, place).
        self.numbers = []
        # Each parenthesis that is not closed: what has to stand behind the plan
        # in it, and of a pair what was read before this plan.
        self.unclosed = []

    def read_plan(self):
        """Read the whole text, and return its plan.

        Parentheses are kept in a list, since a text may have more of them
        within each other than calls should stand within each other.
        """
        plan = self.read_start()
        while self.unclosed or self.kind() != "end":
            if self.takes("|"):
                plan = self.read_stage(plan)
            elif self.unclosed:
                plan = self.leave(plan)
            else:
                self.refuse()
        return plan

    def read_start(self):
        """Read all that may stand before a source and the source, and return it."""
        while not self.has_name():
            if self.takes("("):
                self.unclosed.append((")", ()))
            else:
                self.enter_pair()
        return ("source", self.read_value())

    def enter_pair(self):
        """Read a pair up to its left plan."""
        word = self.read_choice(PAIRS)
        begun = (word,) + self.read_parts(word)
        self.expect("(")
        self.unclosed.append((",", begun))

    def leave(self, plan):
        """Read what has to stand behind a plan in parentheses, and return the plan to go on with."""
        sign, begun = self.unclosed.pop()
        self.expect(sign)
        if begun == ():
            return plan
        if sign == ")":
            return begun + (plan,)
        self.unclosed.append((")", begun + (plan,)))
        return self.read_start()

    def read_stage(self, plan):
        """Read what stands behind a bar, and return the plan with it."""
        word = self.read_choice(STAGES + SINGLES)
        stage = (word,) + self.read_parts(word)
        if word in SINGLES:
            return stage + (plan,)
        return ("stage", stage, plan)

    def read_parts(self, word):
        """Read the parts behind a word, and return their values as a tuple."""
        values = []
        for part in PARTS[word]:
            values.append(self.read_part(part))
        return tuple(values)

    def read_part(self, part):
        """Read a part, and return its value."""
        if part == "comparison":
            return self.read_choice(COMPARISONS)
        if part == "aggregate":
            return self.read_choice(AGGREGATES)
        if part == "combination":
            return self.read_choice(COMBINATIONS)
        if part == "name":
            return self.read_name()
        if part == "names":
            return self.read_names()
        return self.read_number(part)

    def read_names(self):
        """Read one or more names, and return them in order, each once."""
        names = [self.read_name()]
        while self.has_name():
            names.append(self.read_value())
        return tuple(sorted(set(names)))

    def read_name(self):
        """Read a name, and return it."""
        if not self.has_name():
            self.refuse()
        return self.read_value()

    def read_number(self, part):
        """Read a number, note which part it is, and return it."""
        if self.kind() != "number":
            self.refuse()
        place = self.found[self.at][2]
        value = self.read_value()
        self.numbers.append((part, value, place))
        return value

    def read_choice(self, choices):
        """Read one of several words or signs, and return it."""
        if self.found[self.at][1] not in choices:
            self.refuse()
        return self.read_value()

    def expect(self, sign):
        """Read this sign."""
        if not self.takes(sign):
            self.refuse()

    def takes(self, sign):
        """Read this sign if it is the next token, and return whether it was."""
        if self.found[self.at][1] != sign:
            return False
        self.at += 1
        return True

    def read_value(self):
        """Read the next token, and return its value."""
        value = self.found[self.at][1]
        self.at += 1
        return value

    def first_place(self):
        """Return the place of the first token."""
        return self.found[0][2]

    def kind(self):
        """Return the kind of the next token."""
        return self.found[self.at][0]

    def has_name(self):
        """Return whether the next token is a name."""
        kind, value, _ = self.found[self.at]
        return kind == "word" and len(value) <= LONGEST_NAME and not is_of_grammar(value)

    def refuse(self):
        """Raise the error of a token that does not fit, or of an end that comes too early."""
        kind, _, place = self.found[self.at]
        if kind == "end":
            raise PlanError(place, "unexpected end")
        raise PlanError(place, "unexpected token")


def is_of_grammar(word):
    """Return whether a word stands in quotes in the grammar."""
    return word in PARTS or word in AGGREGATES or word in COMBINATIONS
