"""The words of plans, and the tuples that plans consist of."""

PAIRS = ("both", "less", "without", "near")
STAGES = ("sift", "only", "rekey", "scale", "later")
# The operators with one input. In a text they stand where stages stand.
SINGLES = ("once", "windows", "sittings")
# The operators that keep rows.
KEEPING = ("once", "less", "windows", "sittings", "near", "without")


def inputs_of(plan):
    """Return the plans that are the inputs of a plan, the left one first."""
    if plan[0] == "source":
        return ()
    if plan[0] in PAIRS:
        return plan[-2:]
    return plan[-1:]


def with_levels(plan):
    """Return all plans within a plan, itself included, as (plan, level); its own level is 1."""
    found = []
    waiting = [(plan, 1)]
    while waiting:
        inner, level = waiting.pop()
        found.append((inner, level))
        for below in inputs_of(inner):
            waiting.append((below, level + 1))
    return found


def steps_of(plan):
    """Return all plans within a plan, inputs before their operator, each with the places of its inputs here."""
    found = []
    places = []
    for below in inputs_of(plan):
        moved = len(found)
        for inner, inputs in steps_of(below):
            found.append((inner, [place + moved for place in inputs]))
        places.append(len(found) - 1)
    return found + [(plan, places)]
