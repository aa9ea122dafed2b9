"""Makes plans and loosely written texts of them, for the tests."""

KEYS = ("a", "b", "ab", "zz", "abcdefgh")
BLANKS = ("", " ", "\n", "  ", " \n ")
RANGES = {
    "sift": (-1000000000, 1000000000),
    "scale": (-1000, 1000),
    "later": (0, 1000),
    "gap": (0, 1000),
    "near": (0, 1000),
    "slide": (1, 1000),
}


def number(random, kind):
    """Return a number of a kind, often one at an end of its range."""
    low, high = RANGES[kind]
    return random.choice((low, high, random.randint(low, high), random.randint(max(low, -9), 9)))


def aggregate(random):
    return random.choice(("count", "sum", "least", "greatest"))


def plan_of(random, operators, levels):
    """Return a plan with at most so many operators and levels."""
    if operators < 3 or levels == 1 or random.random() < 0.1:
        return ("source", random.choice(KEYS))
    kind = random.randrange(12)
    if kind < 4:
        head = (("both",), ("less",), ("without",), near_of(random))[kind]
        left = (operators - 1) // 2
        right = operators - 1 - left
        return head + (plan_of(random, left, levels - 1), plan_of(random, right, levels - 1))
    below = plan_of(random, operators - 1, levels - 1)
    if kind == 4:
        return ("once", below)
    if kind == 5:
        slide = number(random, "slide")
        size = random.randint(1, min(1000, 10 * slide))
        return ("windows", size, slide, aggregate(random), below)
    if kind == 6:
        return ("sittings", number(random, "gap"), aggregate(random), below)
    return ("stage", stage_of(random), below)


def near_of(random):
    combination = random.choice(("left", "right", "sum", "difference"))
    return ("near", number(random, "near"), number(random, "near"), combination)


def stage_of(random):
    """Return a stage."""
    word = random.choice(("sift", "only", "rekey", "scale", "later"))
    if word == "sift":
        return (word, random.choice(("<", "<=", "=", "!=", ">=", ">")), number(random, word))
    if word == "only":
        return (word, tuple(sorted(random.sample(KEYS, random.randint(1, len(KEYS))))))
    if word == "rekey":
        return (word, random.choice(KEYS))
    return (word, number(random, word))


def loose_words(random, plan):
    """Return the tokens of a text of a plan, with parentheses and zeros that are not needed."""
    words = plain_words(random, plan)
    while random.random() < 0.2:
        words = ["("] + words + [")"]
    return words


def plain_words(random, plan):
    if plan[0] == "source":
        return [plan[1]]
    if plan[0] in ("both", "less", "without", "near"):
        head = [loose_word(random, part) for part in plan[:-2]]
        left = loose_words(random, plan[-2])
        right = loose_words(random, plan[-1])
        return head + ["("] + left + [","] + right + [")"]
    parts = plan[1] if plan[0] == "stage" else plan[:-1]
    if parts[0] == "only":
        keys = list(parts[1]) + random.choices(parts[1], k=random.randint(0, 2))
        random.shuffle(keys)
        parts = ["only"] + keys
    return loose_words(random, plan[-1]) + ["|"] + [loose_word(random, part) for part in parts]


def loose_word(random, part):
    """Return a word as it is, and a number perhaps with leading zeros."""
    if isinstance(part, str):
        return part
    zeros = random.choice(("", "", "0", "000"))
    if part < 0 or part == 0 and random.random() < 0.3:
        return f"-{zeros}{-part}"
    return f"{zeros}{part}"


def needs_blank(before, after):
    """Return whether two tokens would be read as others if nothing stood between them."""
    if before.isalpha() and after.isalpha():
        return True
    if before[-1].isdigit() and after[0].isdigit():
        return True
    return before in ("<", ">") and after.startswith("=")


def joined(random, words):
    """Return tokens as a text, with blanks where they are needed and perhaps elsewhere."""
    text = random.choice(BLANKS)
    for at, word in enumerate(words):
        blank = random.choice(BLANKS)
        if blank == "" and at > 0 and needs_blank(words[at - 1], word):
            blank = random.choice(BLANKS[1:])
        text += blank + word
    return text + random.choice(BLANKS)
