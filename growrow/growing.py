"""Grown rows, what stands in them, and rules behind other rules."""

from growrow.counting import Marked, added, counted, held_after, held_next, sizes_up_to, table_of, weighed
from growrow.errors import OtherRules, TooLong
from growrow.rules import check_place, check_row, check_rules, check_times, grown_once, letters_of

MOST_LETTERS = 100000


def check_asked(rules, row, times):
    check_rules(rules)
    check_row(rules, row)
    check_times(times)


def check_length(many):
    if many > MOST_LETTERS:
        raise TooLong("a row or a rule that is told has at most 100000 letters, and so has each row on the way to it")


# Ahead of all growing, so that a row that is too long is never made.
def check_way(rules, row, times):
    table = table_of(rules)
    held = counted(letters_of(rules), row)
    for step in range(times):
        held = held_next(table, held)
        check_length(sum(held))


def grown(rules, row, times):
    check_asked(rules, row, times)
    check_way(rules, row, times)
    told = row
    for step in range(times):
        told = grown_once(rules, told)
    return told


def counts(rules, row, times):
    check_asked(rules, row, times)
    return held_after(rules, row, times)


def length(rules, row, times):
    return sum(counts(rules, row, times))


# The place lies in a letter of the row, in a letter of that letter's rule, and so on: each of these letters, with how
# many of each letter stand ahead of it in its own text.
def way_to(rules, row, times, place):
    letters = letters_of(rules)
    marked_rules = [Marked(letters, text) for text in rules]
    marked = Marked(letters, row)
    left = place
    way = []
    for sizes in reversed(sizes_up_to(rules, times)):
        index = marked.index_with(sizes, left)
        ahead = marked.ahead_of(index)
        left -= weighed(ahead, sizes)
        sign = marked.text[index]
        way.append((sign, ahead))
        marked = marked_rules[letters.index(sign)]
    return way


def letter(rules, row, times, place):
    check_place(place, length(rules, row, times) - 1)
    return way_to(rules, row, times, place)[-1][0]


def first(rules, row, times, many):
    everything = counts(rules, row, times)
    check_place(many, sum(everything))
    # Behind the last letter there is no place to find a way to.
    if many == sum(everything):
        return everything
    table = table_of(rules)
    held = [0 for text in rules]
    for sign, ahead in way_to(rules, row, times, many):
        held = added(held_next(table, held), ahead)
    return held


def behind(one, other):
    check_rules(one)
    check_rules(other)
    if len(one) != len(other):
        raise OtherRules("rules stand behind rules of as many letters")
    letters = letters_of(other)
    sizes = [len(text) for text in other]
    for text in one:
        check_length(weighed(counted(letters, text), sizes))
    return [grown_once(other, text) for text in one]
