"""Whether a letter comes of another, and whether two rows have alike many letters however often they are grown."""

from growrow.answers import Alike, Apart, Shut, Times, parting_of
from growrow.counting import counted, held_next, table_of
from growrow.rules import check_letter, check_row, check_rules, letters_of


def comes(rules, one, other):
    check_rules(rules)
    check_letter(rules, one)
    check_letter(rules, other)
    letters = letters_of(rules)
    table = table_of(rules)
    held = counted(letters, one)
    come = {}
    # Each letter that comes at all comes for the first time below the count of letters.
    for times in range(len(rules)):
        for sign, many in zip(letters, held):
            if many > 0:
                come[sign] = True
        if other in come:
            return Times(times)
        held = held_next(table, held)
    return Shut("".join(sorted(come)))


def lengths(rules, one, other):
    check_rules(rules)
    check_row(rules, one)
    check_row(rules, other)
    times = parting_of(rules, one, other)
    if times is None:
        return Alike()
    return Apart(times)
