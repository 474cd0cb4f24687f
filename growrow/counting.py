"""How many of each letter there are, and how many letters: all that is told of grown rows without growing them.

How many of each letter a text has is a list of numbers, one for each letter of the rules, in their turn. Everything
here takes what the checks of growrow.rules have let through.
"""

from growrow.rules import letters_of

# Long texts are counted up to the front of each block once, as a place may be looked for in one text 300 times.
BLOCK = 256


def counted(letters, text):
    return [text.count(sign) for sign in letters]


def added(ones, others):
    return [one + other for one, other in zip(ones, others)]


def weighed(held, sizes):
    return sum([many * size for many, size in zip(held, sizes)])


def table_of(rules):
    letters = letters_of(rules)
    return [counted(letters, text) for text in rules]


def held_next(table, held):
    told = [0 for line in table]
    for many, line in zip(held, table):
        # Most rules have few letters, and the numbers become large.
        if many != 0:
            told = [so_far + many * each for so_far, each in zip(told, line)]
    return told


def held_after(rules, row, times):
    table = table_of(rules)
    held = counted(letters_of(rules), row)
    for step in range(times):
        held = held_next(table, held)
    return held


def sizes_up_to(rules, times):
    table = table_of(rules)
    sizes = [[1 for line in table]]
    for step in range(times):
        sizes.append([weighed(line, sizes[-1]) for line in table])
    return sizes


def marks_of(letters, text):
    marks = [[0 for sign in letters]]
    for front in range(0, len(text), BLOCK):
        marks.append(added(marks[-1], counted(letters, text[front:front + BLOCK])))
    return marks


class Marked:
    def __init__(self, letters, text):
        self.letters = letters
        self.text = text
        self.marks = marks_of(letters, text)

    def ahead_of(self, index):
        block = index // BLOCK
        return added(self.marks[block], counted(self.letters, self.text[block * BLOCK:index]))

    # The last block with no more than `place` letters ahead of it, each letter taken for as many as its size tells.
    def block_with(self, sizes, place):
        low = 0
        high = len(self.marks) - 1
        while high - low > 1:
            middle = (low + high) // 2
            if weighed(self.marks[middle], sizes) <= place:
                low = middle
            else:
                high = middle
        return low

    # The letter that the place lies in, each one taken for as many as its size tells. There must be such a place.
    def index_with(self, sizes, place):
        block = self.block_with(sizes, place)
        index = block * BLOCK
        left = place - weighed(self.marks[block], sizes)
        size = sizes[self.letters.index(self.text[index])]
        while left >= size:
            left -= size
            index += 1
            size = sizes[self.letters.index(self.text[index])]
        return index
