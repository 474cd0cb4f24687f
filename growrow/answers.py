"""What is told of two letters or of two rows, and whether it is so: by the fields as they stand when it is asked."""

from growrow.counting import counted, held_after, held_next, table_of
from growrow.rules import is_number_up_to, is_text_of, letters_of


# The first count of times after which the rows have not alike many letters; None if it isn't below the count of
# letters, for then there is none at all.
def parting_of(rules, one, other):
    letters = letters_of(rules)
    table = table_of(rules)
    gap = [mine - yours for mine, yours in zip(counted(letters, one), counted(letters, other))]
    for times in range(len(rules)):
        if sum(gap) != 0:
            return times
        gap = held_next(table, gap)
    return None


class Answer:
    pass


class Times(Answer):
    def __init__(self, many):
        self.many = many

    def shows(self, rules, one, other):
        if not is_number_up_to(len(rules), self.many):
            return False
        return held_after(rules, one, self.many)[letters_of(rules).index(other)] > 0


class Shut(Answer):
    def __init__(self, letters):
        self.letters = letters

    def shows(self, rules, one, other):
        if one not in self.letters or other in self.letters:
            return False
        # What the rules have no rule for is no letter of theirs, and doesn't grow.
        if not is_text_of(letters_of(rules), self.letters):
            return False
        inside = [text for sign, text in zip(letters_of(rules), rules) if sign in self.letters]
        return all([is_text_of(self.letters, text) for text in inside])


class Alike(Answer):
    def shows(self, rules, one, other):
        return parting_of(rules, one, other) is None


class Apart(Answer):
    def __init__(self, many):
        self.many = many

    def shows(self, rules, one, other):
        if not is_number_up_to(len(rules) - 1, self.many):
            return False
        return sum(held_after(rules, one, self.many)) != sum(held_after(rules, other, self.many))
