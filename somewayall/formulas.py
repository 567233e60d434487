"""Formulas: the numbers they begin with, and how a list of numbers is read as one."""

ALWAYS = 0
MARKED = 1
NOT = 2
BOTH = 3
EITHER = 4
SOME_NEXT = 5
ALL_NEXT = 6
SOME_KEEPS = 7
ALL_KEEP = 8
SOME_COMES = 9
ALL_COME = 10
SOME_UNTIL = 11
ALL_UNTIL = 12

# By the number that a formula begins with: how many formulas stand behind it.
BEHIND = (0, 0, 1, 2, 2, 1, 1, 1, 1, 1, 1, 2, 2)

LONGEST = 64
MARKS_IN_ALL = 8


def parts_of(numbers):
    """The formula as a list of pairs (number, mark), in order, or None if the numbers are no formula.

    The mark is 0 where none is told. What stands behind a number stays behind it, so
    nothing is nested, however deep the formula is.
    """
    if len(numbers) > LONGEST:
        return None
    parts = []
    at = 0
    due = 1
    while due > 0:
        part = part_at(numbers, at)
        if part is None:
            return None
        parts.append(part)
        at += 2 if part[0] == MARKED else 1
        due += BEHIND[part[0]] - 1
    return parts if at == len(numbers) else None


def part_at(numbers, at):
    """The pair (number, mark) that begins there, or None if none does."""
    if at >= len(numbers) or numbers[at] >= len(BEHIND):
        return None
    if numbers[at] != MARKED:
        return (numbers[at], 0)
    if at + 1 >= len(numbers) or numbers[at + 1] >= MARKS_IN_ALL:
        return None
    return (MARKED, numbers[at + 1])
