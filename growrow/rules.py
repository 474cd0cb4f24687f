"""Rules, rows, letters, counts of times and places: what is one, what is refused as none; and a row grown once.

The checks take values of any kind. All else here takes what the checks have let through.
"""

from growrow.errors import BadLetter, BadPlace, BadRow, BadRules, BadTimes

ALPHABET = "abcdefghijklmnopqrstuvwxyz"
MOST_TIMES = 300


def letters_of(rules):
    return ALPHABET[:len(rules)]


def is_text_of(letters, value):
    return isinstance(value, str) and len(set(value) - set(letters)) == 0


def is_number_up_to(most, value):
    # Python counts True and False among the whole numbers, the document doesn't.
    return isinstance(value, int) and not isinstance(value, bool) and 0 <= value <= most


def is_rules(value):
    if not isinstance(value, list) or not 1 <= len(value) <= len(ALPHABET):
        return False
    letters = letters_of(value)
    return all([is_text_of(letters, text) for text in value])


# No error tells the value itself: it may be of any kind and size, and showing it could fail.


def check_rules(rules):
    if not is_rules(rules):
        raise BadRules("rules are a list of 1 to 26 texts of the first so many letters")


def check_row(rules, row):
    if not is_text_of(letters_of(rules), row):
        raise BadRow("a row is a text of the letters of its rules")


def check_letter(rules, letter):
    if not is_text_of(letters_of(rules), letter) or len(letter) != 1:
        raise BadLetter("a letter is one of the letters of its rules")


def check_times(times):
    if not is_number_up_to(MOST_TIMES, times):
        raise BadTimes("a count of times is a whole number from 0 to 300")


def check_place(place, last):
    # A row of no letter has no place: its last one is -1, and every place is refused.
    if not is_number_up_to(last, place):
        raise BadPlace("a place is a whole number from 0 to the last one there is")


def grown_once(rules, row):
    rule_of = dict(zip(letters_of(rules), rules))
    return "".join([rule_of[letter] for letter in row])
