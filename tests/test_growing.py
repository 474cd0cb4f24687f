"""Point [2]: grown rows, what stands in them, and the bound of the row that is told."""

import unittest

from asking import (ALL_LETTERS, HUGE, RING, WRONG_PLACES, WRONG_ROWS, WRONG_RULES, WRONG_TIMES, AskingTest, all_rules,
                    at_once, short_rows, slow_counts, slow_grown, slow_once, some_row, some_rules)
from growrow.errors import BadPlace, BadRow, BadRules, BadTimes, TooLong
from growrow.growing import counts, first, grown, length, letter

MOST = 100000


class ShortRowTest(AskingTest):
    def told_as_grown_slowly(self, rules, row, times):
        with self.subTest(rules=rules, row=row, times=times):
            last = slow_grown(rules, row, times)
            self.assertEqual(self.told(grown, rules, row, times), last)
            self.assertEqual(self.told(counts, rules, row, times), slow_counts(rules, last))
            self.assertEqual(self.told(length, rules, row, times), len(last))
            for place in range(len(last)):
                self.assertEqual(self.told(letter, rules, row, times, place), last[place])
            for many in range(len(last) + 1):
                self.assertEqual(self.told(first, rules, row, times, many), slow_counts(rules, last[:many]))
            self.refused(BadPlace, letter, rules, row, times, len(last))
            self.refused(BadPlace, first, rules, row, times, len(last) + 1)

    def test_all_rules_of_one_letter_and_of_two(self):
        for rules in all_rules(1, 3) + all_rules(2, 2):
            for row in short_rows(len(rules)):
                for times in range(4):
                    self.told_as_grown_slowly(rules, row, times)

    def test_some_rules_of_each_count_of_letters(self):
        for many in range(1, 27):
            rules = some_rules(many, many, 3)
            for size in (0, 1, 3, 8):
                row = some_row(size, many, size)
                for times in range(4):
                    self.told_as_grown_slowly(rules, row, times)

    def test_texts_of_none(self):
        for rules, row in ((["", "ab"], "aabaab"), (["b", "c", ""], "abcabc"), (["cab", "", "bcb"], "abcb"),
                           ([""], "aaa"), ([""] * 26, ALL_LETTERS), (["", "", "acb"], "bacab")):
            for times in range(5):
                self.told_as_grown_slowly(rules, row, times)

    def test_the_empty_row(self):
        for rules in ([""], ["aa"], ["ab", "a"], RING):
            for times in (0, 1, 2, 300):
                self.told_as_grown_slowly(rules, "", times)

    def test_no_times(self):
        self.told_as_grown_slowly(["ab", ""], "abba", 0)
        self.told_as_grown_slowly(["", ""], "abba", 0)
        self.told_as_grown_slowly([""] * 26, ALL_LETTERS, 0)

    def test_300_times(self):
        for times in (299, 300):
            self.told_as_grown_slowly(["a"], "aaa", times)
            self.told_as_grown_slowly(["b", "a"], "aab", times)
            self.told_as_grown_slowly(RING, "azb", times)
        self.told_as_grown_slowly(["ab", "b"], "a", 300)

    def test_rows_and_rules_of_several_hundred_letters(self):
        rules = some_rules("long", 5, 3)
        for size in (255, 256, 257, 511, 512, 513, 1000):
            self.told_as_grown_slowly(rules, some_row("long", 5, size), 1)
        for size in (256, 257, 600):
            rules = ["", some_row(1, 3, size), "b" + "a" * size + "c"]
            for times in (0, 1):
                self.told_as_grown_slowly(rules, "abcab", times)

    def test_places_in_letters_grown_of_long_rules(self):
        # Letters that grow to nothing fill whole stretches of the rules.
        rules = ["", some_row(2, 3, 300) + "a" * 700 + "b", "a" * 600 + "cb" + "a" * 600]
        last = slow_grown(rules, "acb", 2)
        for place in list(range(0, len(last), 397)) + [len(last) - 2, len(last) - 1]:
            self.assertEqual(letter(rules, "acb", 2, place), last[place])
            self.assertEqual(first(rules, "acb", 2, place), [last.count(sign, 0, place) for sign in "abc"])

    def test_two_askings_give_two_lists(self):
        rules = ["ab", "a"]
        for asked, handed in ((counts, (rules, "ab", 0)), (counts, (rules, "ab", 3)), (first, (rules, "ab", 3, 0)),
                              (first, (rules, "ab", 3, 2)), (first, (rules, "ab", 3, 8)), (first, (rules, "ab", 0, 2))):
            told = asked(*handed)
            self.assertIs(type(told), list)
            kept = list(told)
            told.append("more")
            told[0] = "other"
            self.assertEqual(asked(*handed), kept)
        self.assertEqual(rules, ["ab", "a"])

    def test_rules_changed_by_the_asker_count_as_they_stand_then(self):
        rules = ["ab", "a"]
        self.assertEqual(grown(rules, "ab", 2), "abaab")
        self.assertEqual(length(rules, "ab", 2), 5)
        rules[1] = "bb"
        self.assertEqual(grown(rules, "ab", 2), slow_grown(["ab", "bb"], "ab", 2))
        self.assertEqual(counts(rules, "ab", 2), [1, 7])


def floor_of_golden(number):
    """The whole part of number times the golden ratio, by whole numbers alone."""
    low, high = 0, 3 * number + 1
    while high - low > 1:
        middle = (low + high) // 2
        if (2 * middle - number) <= 0 or (2 * middle - number) ** 2 <= 5 * number ** 2:
            low = middle
        else:
            high = middle
    return low


def slow_walk(rules, row, times, place):
    """The letter there and how many of each stand ahead of it, letter by letter, by the lengths of grown letters."""
    sizes = [[1] * len(rules)]
    vectors = [[[int(one == other) for other in range(len(rules))] for one in range(len(rules))]]
    for step in range(times):
        sizes.append([sum(sizes[-1][ALL_LETTERS.index(sign)] for sign in text) for text in rules])
        vectors.append([[sum(vectors[-1][ALL_LETTERS.index(sign)][which] for sign in text)
                         for which in range(len(rules))] for text in rules])
    ahead = [0] * len(rules)
    for level in range(times, -1, -1):
        at = 0
        while place >= sizes[level][ALL_LETTERS.index(row[at])]:
            here = ALL_LETTERS.index(row[at])
            place -= sizes[level][here]
            ahead = [one + other for one, other in zip(ahead, vectors[level][here])]
            at += 1
        sign = row[at]
        row = rules[ALL_LETTERS.index(sign)]
    return sign, ahead


class FarTooLongRowTest(AskingTest):
    def test_doubled_letters(self):
        with at_once():
            self.assertEqual(length(["aa"], "aaa", 300), 3 * 2 ** 300)
            self.assertEqual(counts(["aa"], "aaa", 300), [3 * 2 ** 300])
            self.assertEqual(letter(["aa"], "aaa", 300, 3 * 2 ** 300 - 1), "a")
            self.assertEqual(first(["aa"], "aaa", 300, 2 ** 299 + 1), [2 ** 299 + 1])

    def test_a_letter_by_the_digits_of_its_place(self):
        # Grown from a by ab and ba, a letter is b just if its place has an odd count of binary ones.
        rules = ["ab", "ba"]
        total = 2 ** 300
        with at_once():
            for place in (0, 1, 2, 3, total // 3, total // 2 - 1, total // 2, total // 7 * 5, total - 2, total - 1):
                sign = "ab"[bin(place).count("1") % 2]
                self.assertEqual(letter(rules, "a", 300, place), sign)
                ahead = [place // 2, place // 2]
                if place % 2 == 1:
                    ahead["ab".index(letter(rules, "a", 300, place - 1))] += 1
                self.assertEqual(first(rules, "a", 300, place), ahead)
            self.assertEqual(first(rules, "a", 300, total), [total // 2, total // 2])

    def test_a_letter_by_the_golden_ratio(self):
        rules = ["ab", "a"]
        fibonacci = [1, 1]
        while len(fibonacci) < 303:
            fibonacci.append(fibonacci[-1] + fibonacci[-2])
        with at_once():
            for times in (0, 1, 2, 10, 299, 300):
                total = fibonacci[times + 1]
                self.assertEqual(length(rules, "a", times), total)
                self.assertEqual(sum(counts(rules, "a", times)), total)
                self.assertEqual(counts(rules, "a", times)[0], fibonacci[times])
                for place in {0, total // 5, total // 2, total // 3 * 2, total - 1}:
                    is_b = 2 + floor_of_golden(place + 1) - floor_of_golden(place + 2)
                    self.assertEqual(letter(rules, "a", times, place), "ab"[is_b])
                    many_b = 2 * place + 1 - floor_of_golden(place + 1)
                    self.assertEqual(first(rules, "a", times, place), [place - many_b, many_b])

    def test_26_letters_that_all_become_five(self):
        ring = ALL_LETTERS * 2
        rules = [ring[which:which + 5] for which in range(26)]
        total = 2 * 5 ** 300
        # As the letters go round, each letter is the first one moved on by the digits of the place.
        moved = [1] + [0] * 25
        for step in range(300):
            moved = [sum(moved[which - back] for back in range(5)) for which in range(26)]
        with at_once():
            self.assertEqual(length(rules, "ac", 300), total)
            self.assertEqual(counts(rules, "ac", 300), [moved[which] + moved[which - 2] for which in range(26)])
            for place in (0, 1, 4, 5, total // 3, total // 2 - 1, total // 2, total // 9 * 7, total - 2, total - 1):
                rest = place
                where = 0
                for step in range(300):
                    where += rest % 5
                    rest //= 5
                sign = ALL_LETTERS[(where + 2 * rest) % 26]
                self.assertEqual(letter(rules, "ac", 300, place), sign)

    def test_the_first_letters_of_26_that_all_become_several(self):
        rules = [text + ALL_LETTERS[which:which + 3] + "ab" for which, text in enumerate(some_rules("far", 26, 6))]
        row = some_row("far", 26, 30)
        with at_once():
            everything = counts(rules, row, 300)
            total = sum(everything)
            self.assertEqual(length(rules, row, 300), total)
            self.assertGreater(total, 3 ** 300)
            self.assertEqual(first(rules, row, 300, 0), [0] * 26)
            self.assertEqual(first(rules, row, 300, total), everything)
            for place in (0, 1, total // 3, total // 2, total - 1):
                ahead = first(rules, row, 300, place)
                self.assertEqual(sum(ahead), place)
                ahead[ALL_LETTERS.index(letter(rules, row, 300, place))] += 1
                self.assertEqual(first(rules, row, 300, place + 1), ahead)
            for place in (total, total + 1, -1, HUGE):
                self.refused(BadPlace, letter, rules, row, 300, place)
            for many in (total + 1, total + 2, -1, HUGE):
                self.refused(BadPlace, first, rules, row, 300, many)

    def test_as_walked_letter_by_letter(self):
        for rules, row in ((["abca", "", "cc"], "bacab"), (["bb", "ca", "", "abcd"], "cdcab"),
                           (["c" * 7 + "a", "aab" + "c" * 300, ""], "bcba"), (some_rules(5, 4, 5), "abcd" * 80)):
            for times in (1, 7, 60, 300):
                with at_once():
                    total = length(rules, row, times)
                    for place in {0, 1, total // 7, total // 2, total * 5 // 6, total - 2, total - 1}:
                        with self.subTest(rules=rules, row=row, times=times):
                            sign, ahead = slow_walk(rules, row, times, place)
                            self.assertEqual(letter(rules, row, times, place), sign)
                            self.assertEqual(first(rules, row, times, place), ahead)

    def test_rules_and_rows_of_very_many_letters(self):
        texts = (ALL_LETTERS * 4000, ALL_LETTERS[::-1] * 4000)
        rules = [texts[which % 2] for which in range(26)]
        row = "az" * 100000
        total = 200000 * 104000 ** 300
        with at_once():
            self.assertEqual(length(rules, row, 300), total)
            self.assertEqual(counts(rules, row, 300), [total // 26] * 26)
            for place in (0, total // 2, total - 1):
                # The last letter that is grown is one of a text of odd or of even turn.
                within = place % 104000
                before = letter(rules, row, 299, place // 104000)
                self.assertEqual(letter(rules, row, 300, place), texts[ALL_LETTERS.index(before) % 2][within])
            self.assertEqual(first(rules, row, 300, total // 2), [total // 52] * 26)

    def test_the_row_itself_is_refused_at_once(self):
        with at_once():
            self.refused(TooLong, grown, ["aa"], "a", 300)
            self.refused(TooLong, grown, [ALL_LETTERS] * 26, ALL_LETTERS, 300)
            self.refused(TooLong, grown, [ALL_LETTERS * 4000] * 26, "a" * MOST, 300)


class BoundTest(AskingTest):
    def test_just_100000_letters_and_one_more(self):
        rules = ["aa", "b"]
        self.assertEqual(grown(rules, "a" * 50000, 1), "a" * MOST)
        self.assertEqual(grown(rules, "a" * 49999 + "bb", 1), "a" * 99998 + "bb")
        self.refused(TooLong, grown, rules, "a" * 50000 + "b", 1)
        self.refused(TooLong, grown, rules, "b" + "a" * 50000, 1)
        self.assertEqual(grown(["a" * MOST], "a", 1), "a" * MOST)
        self.refused(TooLong, grown, ["a" * (MOST + 1)], "a", 1)
        self.assertEqual(grown(["aaaaaaaaaa"], "a", 5), "a" * MOST)
        self.refused(TooLong, grown, ["aaaaaaaaaa", "b"], "ab", 5)
        self.refused(TooLong, grown, ["aaaaaaaaaa"], "a", 6)

    def test_just_100000_letters_for_long(self):
        self.assertEqual(grown(["b", "a"], "ab" * 50000, 300), "ab" * 50000)
        self.assertEqual(grown(["ab", "b"], "a" + "b" * 99699, 300), "a" + "b" * 99999)
        self.refused(TooLong, grown, ["ab", "b"], "a" + "b" * 99700, 300)
        self.assertEqual(grown(["ab", "b"], "a" + "b" * 99700, 299), "a" + "b" * 99999)

    def test_a_row_on_the_way(self):
        self.assertEqual(grown(["b" * MOST, ""], "a", 2), "")
        for times in (1, 2, 3, 300):
            self.refused(TooLong, grown, ["b" * (MOST + 1), ""], "a", times)
        rules = ["b" * 317, "c" * 317, "d", ""]
        for times in (2, 3, 4, 5, 300):
            self.refused(TooLong, grown, rules, "a", times)
        self.assertEqual(grown(rules, "a", 1), "b" * 317)
        self.assertEqual(grown(["b" * 316, "c" * 316, "d", ""], "a", 4), "")

    def test_the_first_row_may_be_longer(self):
        for row in ("a" * MOST, "a" * (MOST + 1), "ab" * MOST, "b" * 10 * MOST):
            self.assertEqual(grown(["aa", ""], row, 0), row)
        self.assertEqual(grown(["", "b"], "a" * 3 * MOST + "b", 1), "b")
        self.assertEqual(grown(["", "b"], "a" * 3 * MOST + "b", 300), "b")
        self.assertEqual(grown(["", "b"], "ab" * MOST, 2), "b" * MOST)
        self.refused(TooLong, grown, ["", "b"], "ab" * MOST + "b", 1)
        self.refused(TooLong, grown, ["a"], "a" * (MOST + 1), 1)
        self.refused(TooLong, grown, ["b", ""], "a" * (MOST + 1), 2)

    def test_nothing_else_is_bounded(self):
        self.assertEqual(length(["a" * (MOST + 1)], "a", 2), (MOST + 1) ** 2)
        self.assertEqual(counts(["b" * (MOST + 1), "b"], "a", 1), [0, MOST + 1])
        self.assertEqual(letter(["b" * MOST + "a", "b"], "a", 1, MOST), "a")
        self.assertEqual(first(["b" * MOST + "a", "b"], "a", 1, MOST + 1), [1, MOST])


class RefusalTest(AskingTest):
    def setUp(self):
        self.rules = ["ab", "b"]
        self.asked = [(0, WRONG_RULES, BadRules), (1, WRONG_ROWS, BadRow), (2, WRONG_TIMES, BadTimes)]

    def test_counts_and_length(self):
        for asked in (counts, length):
            self.refused_in_turn(asked, (self.rules, "ab", 3), self.asked)

    def test_letter_and_first(self):
        for asked in (letter, first):
            self.refused_in_turn(asked, (self.rules, "ab", 3, 2), self.asked + [(3, WRONG_PLACES, BadPlace)])

    def test_grown(self):
        self.refused_in_turn(grown, (self.rules, "ab", 3), self.asked)

    def test_grown_refuses_a_row_as_too_long_at_last(self):
        self.refused(TooLong, grown, ["aa"], "a", 17)
        for rules in (("aa",), ["aa", 1], ["aab"]):
            self.refused(BadRules, grown, rules, "a", 17)
        self.refused(BadRow, grown, ["aa"], "b", 17)
        self.refused(BadRow, grown, ["aa"], ["a"], 301)
        for times in (301, True, "17", 17.0, HUGE):
            self.refused(BadTimes, grown, ["aa"], "a" * MOST, times)

    def test_the_places_there_are(self):
        for place in (0, 1, 7):
            self.assertEqual(letter(["aa"], "a", 3, place), "a")
        for place in (-1, -8, 8, 9, True, False, None, "0", [0], (0,), {}, 0.0, HUGE):
            self.refused(BadPlace, letter, ["aa"], "a", 3, place)
        for many in (0, 1, 7, 8):
            self.assertEqual(first(["aa"], "a", 3, many), [many])
        for many in (-1, -8, 9, 10, True, False, None, "0", [0], (0,), {}, 0.0, HUGE):
            self.refused(BadPlace, first, ["aa"], "a", 3, many)

    def test_no_place_in_a_row_of_none(self):
        for rules, row, times in ((["aa"], "", 0), (["aa"], "", 300), ([""], "aaa", 1), (["b", ""], "ab", 300)):
            for place in (-1, 0, 1):
                self.refused(BadPlace, letter, rules, row, times, place)
            for many in (-1, 1):
                self.refused(BadPlace, first, rules, row, times, many)
            self.assertEqual(first(rules, row, times, 0), [0] * len(rules))

    def test_300_times_is_the_most(self):
        for asked, handed in ((grown, ()), (counts, ()), (length, ()), (letter, (0,)), (first, (1,))):
            asked(["a"], "a", 300, *handed)
            for times in (301, 302, -1, HUGE, -HUGE):
                self.refused(BadTimes, asked, ["a"], "a", times, *handed)


class SlowWayTest(unittest.TestCase):
    """What the other tests are held against."""

    def test_known_rows(self):
        self.assertEqual(slow_once(["b", "a"], "ab"), "ba")
        self.assertEqual(slow_grown(["ab", "a"], "a", 4), "abaababa")
        self.assertEqual(slow_grown(["b", "c", ""], "abc", 2), "c")
        self.assertEqual(slow_counts(["ab", "a", ""], "abaab"), [3, 2, 0])
        self.assertEqual(slow_walk(["ab", "a"], "a", 4, 4), ("b", [3, 1]))
        self.assertEqual([floor_of_golden(number) for number in range(8)], [0, 1, 3, 4, 6, 8, 9, 11])


if __name__ == "__main__":
    unittest.main()
