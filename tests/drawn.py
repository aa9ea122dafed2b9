"""Draws rows, bags, changes, stages and plans for the tests."""

from random import Random

KEYS = ("a", "ab", "b")
AGGREGATES = ("count", "sum", "least", "greatest")
COMBINATIONS = ("left", "right", "sum", "difference")
COMPARISONS = ("<", "<=", "=", "!=", ">=", ">")
MANY_DIGITS = 10 ** 40 + 7


class Drawing:
    """Draws small numbers, or if it is wide also such of many digits."""

    def __init__(self, seed, wide=False):
        self.random = Random(seed)
        self.wide = wide

    def pick(self, *choices):
        return self.random.choice(choices)

    def number(self, low, high):
        """Return a number from low to high, sometimes with many digits in front of it."""
        near = self.random.randint(low, high)
        if self.wide and self.random.random() < 0.4:
            return near + self.pick(MANY_DIGITS, -MANY_DIGITS)
        return near

    def row(self):
        return (self.number(-6, 9), self.pick(*KEYS), self.number(-3, 3))

    def rows(self, most):
        """Return different rows, at most so many, many of which have equal times, keys or values."""
        found = []
        for _ in range(self.random.randint(0, most)):
            row = self.row()
            if found and self.random.random() < 0.3:
                time, key, value = self.pick(*found)
                row = self.pick((time, key, row[2]), (time, row[1], value), (row[0], key, value))
            if row not in found:
                found.append(row)
        return sorted(found)

    def count(self):
        return self.pick(1, 1, 1, 2, 3, MANY_DIGITS if self.wide else 4)

    def bag(self, most):
        return [(row, self.count()) for row in self.rows(most)]

    def changes(self, most):
        return [(row, self.count() * self.pick(1, -1)) for row in self.rows(most)]

    def pairs(self, most):
        """Return rows with counts, in any order, which perhaps stand several times or add up to 0."""
        rows = self.rows(most) or [(0, "a", 0)]
        found = [(self.pick(*rows), self.pick(-2, -1, 0, 1, 2, self.count())) for _ in range(most)]
        for row, count in found[:most // 4]:
            found.append((row, -count))
        self.random.shuffle(found)
        return found

    def stage(self):
        word = self.pick("sift", "sift", "only", "rekey", "scale", "scale", "later")
        if word == "sift":
            return (word, self.pick(*COMPARISONS), self.number(-7, 7))
        if word == "only":
            keys = self.random.sample(KEYS + ("aa",), self.random.randint(1, 3))
            return (word, tuple(sorted(keys)))
        if word == "rekey":
            return (word, self.pick(*KEYS, "zz"))
        if word == "scale":
            return (word, self.pick(-3, -2, -1, 0, 1, 2, 3, self.number(-9, 9)))
        return (word, self.pick(0, 1, 2, 7))

    def stages(self, most):
        return [self.stage() for _ in range(self.random.randint(0, most))]

    def plan(self, operators, levels):
        """Return a plan with at most so many tuples and levels."""
        if operators == 1 or levels == 1 or self.random.random() < 0.08:
            return ("source", self.pick("a", "b", "c"))
        word = self.pick(
            "both", "less", "without", "near", "once", "windows", "sittings", "stage", "stage", "stage"
        )
        if word in ("both", "less", "without", "near"):
            if operators < 3:
                return self.plan(1, 1)
            left = self.random.randint(1, operators - 2)
            inputs = (self.plan(left, levels - 1), self.plan(operators - 1 - left, levels - 1))
            return (word,) + self.parts(word) + inputs
        return (word,) + self.parts(word) + (self.plan(operators - 1, levels - 1),)

    def parts(self, word):
        """Return what stands between the word of a plan and its inputs."""
        if word == "near":
            return (self.pick(0, 0, 1, 2, 5), self.pick(0, 0, 1, 3, 5), self.pick(*COMBINATIONS))
        if word == "windows":
            return (self.pick(1, 2, 3, 5, 7), self.pick(1, 2, 3, 5, 7), self.pick(*AGGREGATES))
        if word == "sittings":
            return (self.pick(0, 1, 2, 5), self.pick(*AGGREGATES))
        if word == "stage":
            return (self.stage(),)
        return ()


def drawings(many, first_seed):
    """Return so many drawings, every second one of them wide."""
    return [Drawing(first_seed + at, at % 2 == 1) for at in range(many)]
