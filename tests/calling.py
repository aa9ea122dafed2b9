"""Calls functions under test, and looks at what they leave and return."""

from copy import deepcopy


def called(test, function, *arguments):
    """Return what a function returns; check that its arguments stay and that its list is new."""
    before = deepcopy(arguments)
    first = function(*arguments)
    test.assertEqual(arguments, before, "an argument was changed")
    if isinstance(first, list):
        # If the list were not new, changing it would show in an argument or in the next answer.
        first_copy = list(first)
        first.reverse()
        first.append("one more")
        test.assertEqual(arguments, before, "the list is not new")
        second = function(*arguments)
        test.assertEqual(second, first_copy, "another list the second time")
        return second
    return first


def check_form(test, changes):
    """Check that a list is one of changes: ordered, each row once, no count 0, of plain kinds."""
    test.assertIs(type(changes), list)
    for pair in changes:
        test.assertIs(type(pair), tuple)
        row, count = pair
        test.assertIs(type(row), tuple)
        test.assertEqual([type(part) for part in row], [int, str, int])
        test.assertIs(type(count), int)
        test.assertNotEqual(count, 0)
    for (before, _), (behind, _) in zip(changes, changes[1:]):
        test.assertLess(before, behind)
