"""Tells by the grammar of point 13, as the document writes it, where a text goes wrong."""

import re

GRAMMAR = """
plan   = start { "|" stage } .
start  = name | "(" plan ")" | pair "(" plan "," plan ")" .
pair   = "both" | "less" | "without" | "near" number number ( "left" | "right" | "sum" | "difference" ) .
stage  = "sift" ( "<" | "<=" | "=" | "!=" | ">=" | ">" ) number | "only" name { name } | "rekey" name
       | "scale" number | "later" number | "once"
       | "windows" number number aggregate | "sittings" number aggregate .
aggregate = "count" | "sum" | "least" | "greatest" .
"""
QUOTED = sorted(set(re.findall(r'"([^"]+)"', GRAMMAR)))


def rules_of(grammar):
    """Return the rules as a dict from names to lists of alternatives, which are tuples.

    What stands in braces or parentheses gets rules of its own, with numbers as names.
    """
    words = re.findall(r'"[^"]+"|[a-z]+|[=.|{}()]', grammar)
    rules = {}
    at = 0
    while at < len(words):
        name = words[at]
        rules[name], at = alternatives(words, at + 2, rules)
        at += 1
    return rules


def alternatives(words, at, rules):
    """Read alternatives up to the sign that ends them; return them and its place."""
    found = [()]
    while words[at] not in (".", "}", ")"):
        if words[at] == "|":
            found.append(())
            at += 1
        elif words[at] in ("{", "("):
            repeated = words[at] == "{"
            inner, at = alternatives(words, at + 1, rules)
            name = len(rules)
            rules[name] = [()] + [choice + (name,) for choice in inner] if repeated else inner
            found[-1] += (name,)
            at += 1
        else:
            found[-1] += (words[at],)
            at += 1
    return found, at


RULES = rules_of(GRAMMAR)


def fits(terminal, word):
    """Return whether a token of a text may stand for a terminal of the grammar."""
    if terminal == "number":
        return word[-1].isdigit()
    if terminal == "name":
        return word.isalpha() and len(word) <= 8 and word not in QUOTED
    return terminal == f'"{word}"'


def closed(states, sets, at):
    """Return a set of Earley's states with all that follows from it."""
    known = {}
    waiting = list(states)
    while waiting:
        state = waiting.pop()
        if state in known:
            continue
        known[state] = True
        name, choice, done, begin = state
        if done < len(choice):
            for other in RULES.get(choice[done], []):
                waiting.append((choice[done], other, 0, at))
            # What can be empty was perhaps completed before this state was known.
            if () in RULES.get(choice[done], []):
                waiting.append((name, choice, done + 1, begin))
        else:
            for old in list(known) if begin == at else sets[begin]:
                if old[2] < len(old[1]) and old[1][old[2]] == name:
                    waiting.append((old[0], old[1], old[2] + 1, old[3]))
    return known


def first_fault(words):
    """Return the index of the first unexpected token, len(words) for the end, or None."""
    start = [("plan", choice, 0, 0) for choice in RULES["plan"]]
    sets = []
    states = start
    for at in range(len(words) + 1):
        current = closed(states, sets, at)
        if not current:
            return at - 1
        sets.append(current)
        if at < len(words):
            states = []
            for name, choice, done, begin in current:
                if done < len(choice) and choice[done] not in RULES and fits(choice[done], words[at]):
                    states.append((name, choice, done + 1, begin))
    for name, choice, done, begin in sets[-1]:
        if name == "plan" and done == len(choice) and begin == 0:
            return None
    return len(words)
