"""Prints plans, and names their sources."""

from tidefold.plans import PAIRS, with_levels


def print_plan(plan):
    """Return the canonical text of a plan."""
    stages = []
    while plan[0] != "source" and plan[0] not in PAIRS:
        stages.append(stage_text(plan))
        plan = plan[-1]
    return " | ".join([start_text(plan)] + stages[::-1])


def start_text(plan):
    """Return the text of a source or a pair."""
    if plan[0] == "source":
        return plan[1]
    head = spaced(plan[:-2])
    left = print_plan(plan[-2])
    right = print_plan(plan[-1])
    return f"{head}({left}, {right})"


def stage_text(plan):
    """Return the text of the outermost stage or operator of a plan, without its input."""
    if plan[0] != "stage":
        return spaced(plan[:-1])
    stage = plan[1]
    if stage[0] == "only":
        return spaced(("only",) + stage[1])
    return spaced(stage)


def spaced(values):
    """Return words, signs and numbers with a space between them."""
    return " ".join([str(value) for value in values])


def sources(plan):
    """Return the names of the sources of a plan, ascending, each once."""
    return sorted({inner[1] for inner, _ in with_levels(plan) if inner[0] == "source"})
