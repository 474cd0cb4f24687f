"""Point [1]: rules, rows, letters, counts of times, places, and a row grown once."""

import unittest

from asking import ALL_LETTERS, LONG, NO_LETTERS, NO_LISTS, NO_NUMBERS, NO_TEXTS, AskingTest
from growrow.errors import BadLetter, BadPlace, BadRow, BadRules, BadTimes
from growrow.rules import check_letter, check_place, check_row, check_rules, check_times, grown_once, letters_of


class RulesTest(AskingTest):
    def test_one_text(self):
        for text in ("", "a", "aa", "a" * LONG):
            self.taken(check_rules, [text])

    def test_each_count_of_texts_up_to_26(self):
        for many in range(1, 27):
            self.taken(check_rules, [ALL_LETTERS[:many]] * many)
            self.taken(check_rules, [""] * many)

    def test_long_texts_of_26(self):
        self.taken(check_rules, [ALL_LETTERS * 2000] * 26)

    def test_no_text_and_27_texts(self):
        self.refused(BadRules, check_rules, [])
        self.refused(BadRules, check_rules, ["a"] * 27)
        self.refused(BadRules, check_rules, [""] * 27)
        self.refused(BadRules, check_rules, ["a"] * 1000)

    def test_what_is_no_list(self):
        for other in NO_LISTS:
            self.refused(BadRules, check_rules, other)

    def test_something_in_the_list_that_is_no_text(self):
        for other in NO_TEXTS:
            self.refused(BadRules, check_rules, [other])
            self.refused(BadRules, check_rules, [other, "a"])
            self.refused(BadRules, check_rules, ["a", "b", other])

    def test_a_list_that_holds_itself(self):
        loop = ["a"]
        loop.append(loop)
        self.refused(BadRules, check_rules, loop)

    def test_a_letter_beyond_the_lists_own(self):
        for many in range(1, 26):
            beyond = ALL_LETTERS[many]
            self.refused(BadRules, check_rules, [beyond] + ["a"] * (many - 1))
            self.refused(BadRules, check_rules, ["a"] * (many - 1) + ["a" + beyond + "a"])
        self.refused(BadRules, check_rules, ["z"])

    def test_a_sign_that_is_no_letter(self):
        for sign in NO_LETTERS:
            self.refused(BadRules, check_rules, [sign])
            self.refused(BadRules, check_rules, ["a"] * 25 + ["a" + sign])
            self.refused(BadRules, check_rules, ["a"] * 25 + [sign + "a"])
            self.refused(BadRules, check_rules, ["a" * LONG + sign + "a"])

    def test_what_is_refused_stands_unchanged(self):
        rules = ["ab", "c", None]
        self.refused(BadRules, check_rules, rules)
        self.assertEqual(rules, ["ab", "c", None])


class LettersOfTest(unittest.TestCase):
    def test_as_many_letters_as_texts_from_a_on(self):
        self.assertEqual(letters_of(["a"]), "a")
        self.assertEqual(letters_of(["", "a", "c"]), "abc")
        for many in range(1, 27):
            self.assertEqual(letters_of([""] * many), ALL_LETTERS[:many])


class RowTest(AskingTest):
    def test_rows(self):
        for row in ("", "a", "b", "ab", "ba", "bbbab", "ab" * LONG):
            self.taken(check_row, ["ab", ""], row)
        self.taken(check_row, [""], "aaa")
        self.taken(check_row, [""] * 26, ALL_LETTERS)

    def test_a_letter_that_the_rules_dont_have(self):
        for many in range(1, 26):
            beyond = ALL_LETTERS[many]
            self.refused(BadRow, check_row, ["a"] * many, beyond)
            self.refused(BadRow, check_row, ["a"] * many, "a" + beyond)
            self.refused(BadRow, check_row, ["a"] * many, beyond + "a")
        self.refused(BadRow, check_row, ["ab", "a"], "ab" * LONG + "c" + "ab")

    def test_a_sign_that_is_no_letter(self):
        for sign in NO_LETTERS:
            self.refused(BadRow, check_row, ["a"] * 26, sign)
            self.refused(BadRow, check_row, ["a"] * 26, "ab" + sign)
            self.refused(BadRow, check_row, ["a"] * 26, sign + "ab")

    def test_what_is_no_text(self):
        for other in NO_TEXTS:
            self.refused(BadRow, check_row, ["ab", "a"], other)


class LetterTest(AskingTest):
    def test_each_of_the_rules_own_letters(self):
        for many in (1, 2, 25, 26):
            for one in ALL_LETTERS[:many]:
                self.taken(check_letter, [""] * many, one)

    def test_none_two_and_more(self):
        for text in ("", "ab", "ba", "aa", "abc", "a" * LONG):
            self.refused(BadLetter, check_letter, ["a", "b", "c"], text)

    def test_one_beyond_them(self):
        for many in range(1, 26):
            self.refused(BadLetter, check_letter, ["a"] * many, ALL_LETTERS[many])
        self.refused(BadLetter, check_letter, ["a"], "z")

    def test_a_sign_that_is_no_letter(self):
        for sign in NO_LETTERS:
            self.refused(BadLetter, check_letter, ["a"] * 26, sign)
            self.refused(BadLetter, check_letter, ["a"] * 26, "a" + sign)

    def test_what_is_no_text(self):
        for other in NO_TEXTS:
            self.refused(BadLetter, check_letter, ["ab", "a"], other)


class TimesTest(AskingTest):
    def test_0_to_300(self):
        for times in range(301):
            self.taken(check_times, times)

    def test_below_and_beyond(self):
        for times in (-1, -300, 301, 302, 10 ** 30, -10 ** 30, 10 ** 6000, -10 ** 6000):
            self.refused(BadTimes, check_times, times)

    def test_what_is_no_whole_number(self):
        for other in NO_NUMBERS:
            self.refused(BadTimes, check_times, other)


class PlaceTest(AskingTest):
    def test_from_0_to_the_last_one(self):
        for last in (0, 1, 7):
            for place in range(last + 1):
                self.taken(check_place, place, last)
        self.taken(check_place, 10 ** 6000, 10 ** 6000)

    def test_below_and_beyond(self):
        for last in (0, 1, 7):
            for place in (-1, -last - 1, last + 1, last + 2, 10 ** 30):
                self.refused(BadPlace, check_place, place, last)
        self.refused(BadPlace, check_place, 10 ** 6000 + 1, 10 ** 6000)

    def test_no_place_where_there_is_none(self):
        for place in (-1, 0, 1):
            self.refused(BadPlace, check_place, place, -1)

    def test_what_is_no_whole_number(self):
        for other in NO_NUMBERS:
            self.refused(BadPlace, check_place, other, 7)


class GrownOnceTest(unittest.TestCase):
    def grows(self, rules, row, grown):
        with self.subTest(rules=rules, row=row):
            before = list(rules)
            self.assertEqual(grown_once(rules, row), grown)
            self.assertEqual(rules, before)

    def test_each_letters_rule_in_its_place(self):
        self.grows(["ab", "a"], "a", "ab")
        self.grows(["ab", "a"], "b", "a")
        self.grows(["ab", "a"], "aba", "abaab")
        self.grows(["b", "c", "a"], "abccba", "bcaacb")
        self.grows(["abc", "cc", "b"], "cab", "babccc")

    def test_rules_of_no_letter_among_them(self):
        self.grows(["", "ab"], "aabaab", "abab")
        self.grows(["", "ab"], "aaa", "")
        self.grows(["ba", "", "c"], "abc", "bac")
        self.grows([""], "a", "")

    def test_the_row_of_no_letter(self):
        self.grows(["ab", "a"], "", "")
        self.grows([""], "", "")

    def test_one_letter_and_26(self):
        self.grows(["aaa"], "aa", "aaaaaa")
        self.grows(list(ALL_LETTERS[1:] + "a"), ALL_LETTERS, ALL_LETTERS[1:] + "a")

    def test_all_letters_grow_at_one_time(self):
        # Replacing one letter behind the other would grow the new letters again.
        self.grows(["b", "a"], "ab", "ba")
        self.grows(["b", "c", ""], "abc", "bc")

    def test_long_ones(self):
        self.assertEqual(grown_once(["ab", "a"], "ab" * LONG), "aba" * LONG)
        self.assertEqual(grown_once(["b" * LONG, ""], "bab"), "b" * LONG)


if __name__ == "__main__":
    unittest.main()
