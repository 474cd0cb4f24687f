"""Points [4] and [5]: what is told of two letters, and of two rows."""

import itertools
import unittest

from asking import (ALL_LETTERS, CHAIN, RING, WRONG_LETTERS, WRONG_ROWS, WRONG_RULES, AskingTest, all_rules, at_once,
                    late_rules, short_rows, slow_grown, some_row, some_rules)
from growrow.answers import Alike, Apart, Shut, Times
from growrow.errors import BadLetter, BadRow, BadRules
from growrow.growing import length
from growrow.telling import comes, lengths


def letters_grown(rules, letters):
    return "".join(sorted({sign for own in letters for sign in rules[ALL_LETTERS.index(own)]}))


class ComesTest(AskingTest):
    def told_rightly(self, rules, one, other):
        with self.subTest(rules=rules, one=one, other=other):
            answer = self.told(comes, rules, one, other)
            self.assertIs(answer.shows(rules, one, other), True)
            held = [one]
            for step in rules:
                held.append(letters_grown(rules, held[-1]))
            if any(other in letters for letters in held):
                self.assertIs(type(answer), Times)
                self.assertIs(type(answer.many), int)
                self.assertTrue(0 <= answer.many <= len(rules))
                self.assertIn(other, held[answer.many])
            else:
                self.assertIs(type(answer), Shut)
                self.assertIs(type(answer.letters), str)
                self.assertLessEqual(set(answer.letters), set(ALL_LETTERS[:len(rules)]))
                self.assertIn(one, answer.letters)
                self.assertNotIn(other, answer.letters)
                self.assertLessEqual(set(letters_grown(rules, answer.letters)), set(answer.letters))

    def each_two_letters(self, rules):
        own = ALL_LETTERS[:len(rules)]
        for one, other in itertools.product(own, own):
            self.told_rightly(rules, one, other)

    def test_all_short_rules(self):
        for rules in all_rules(1, 2) + all_rules(2, 2) + all_rules(3, 2)[::7]:
            self.each_two_letters(rules)

    def test_some_rules_of_each_count_of_letters(self):
        for many in range(1, 27):
            for longest in (1, 2, 5):
                self.each_two_letters(some_rules("comes", many, longest))

    def test_a_letter_that_comes_as_late_as_can_be(self):
        for rules in (RING, CHAIN):
            self.each_two_letters(rules)
        answer = comes(CHAIN, "a", "z")
        self.assertEqual((type(answer), answer.many), (Times, 25))

    def test_a_letter_with_itself(self):
        for rules in ([""], ["a"], ["aa"], ["", "a"], ["b", "a"], CHAIN):
            for own in ALL_LETTERS[:len(rules)]:
                self.assertIs(type(comes(rules, own, own)), Times)
                self.told_rightly(rules, own, own)

    def test_letters_shut_in(self):
        for rules, one, other in ((["a", "b"], "a", "b"), (["", ""], "b", "a"), (["b", "a", "abc"], "a", "c"),
                                  (["", "a" * 1000], "a", "b"), (CHAIN, "z", "a")):
            self.assertIs(type(comes(rules, one, other)), Shut)
            self.told_rightly(rules, one, other)

    def test_long_rules_at_once(self):
        rules = [ALL_LETTERS[:which + 1] * 8000 for which in range(26)]
        with at_once():
            self.assertIs(comes(rules, "z", "a").shows(rules, "z", "a"), True)
            answer = comes(rules, "y", "z")
            self.assertEqual((type(answer), sorted(answer.letters)), (Shut, list(ALL_LETTERS[:25])))

    def test_two_askings_give_two_answers(self):
        rules = ["b", "a", "c"]
        comes(rules, "a", "b").many = 77
        comes(rules, "a", "c").letters = "changed"
        self.told_rightly(rules, "a", "b")
        self.told_rightly(rules, "a", "c")

    def test_refusals(self):
        wrong = [(0, WRONG_RULES, BadRules), (1, WRONG_LETTERS, BadLetter), (2, WRONG_LETTERS, BadLetter)]
        self.refused_in_turn(comes, (["ab", "b"], "a", "b"), wrong)

    def test_letters_beyond_the_rules(self):
        for many in range(1, 26):
            rules = ["a"] * many
            for beyond in (ALL_LETTERS[many], "z"):
                self.refused(BadLetter, comes, rules, "a", beyond)
                self.refused(BadLetter, comes, rules, beyond, "a")
                self.refused(BadLetter, comes, rules, beyond, beyond)


class LengthsTest(AskingTest):
    def told_rightly(self, rules, one, other, farther=6):
        with self.subTest(rules=rules, one=one, other=other):
            answer = self.told(lengths, rules, one, other)
            self.assertIs(answer.shows(rules, one, other), True)
            apart = [length(rules, one, times) != length(rules, other, times) for times in range(len(rules) + farther)]
            if any(apart):
                self.assertIs(type(answer), Apart)
                self.assertIs(type(answer.many), int)
                self.assertTrue(0 <= answer.many < len(rules))
                self.assertTrue(apart[answer.many])
            else:
                self.assertIs(type(answer), Alike)
            return answer

    def test_all_short_rules(self):
        for rules in all_rules(1, 2) + all_rules(2, 2) + all_rules(3, 1):
            for one, other in itertools.product(short_rows(len(rules)), repeat=2):
                self.told_rightly(rules, one, other, 2)

    def test_short_rows_against_rows_grown_slowly(self):
        for many in range(1, 6):
            for seed in range(12):
                rules = some_rules(seed, many, 2)
                one, other = some_row(seed, many, 3), some_row(seed + 1, many, 3)
                alike = all(len(slow_grown(rules, one, times)) == len(slow_grown(rules, other, times))
                            for times in range(many + 3))
                self.assertIs(type(lengths(rules, one, other)), Alike if alike else Apart)

    def test_some_rules_of_each_count_of_letters(self):
        for many in range(1, 27):
            for longest in (1, 3):
                rules = some_rules("lengths", many, longest)
                row = some_row("lengths", many, 12)
                for other in (row, row[::-1], row[:-1], row[1:] + "a", some_row("other", many, 12), ""):
                    self.told_rightly(rules, row, other, 3)

    def test_apart_at_the_last_count_alone(self):
        for size in range(2, 27):
            rules, last = late_rules(size), ALL_LETTERS[size - 1]
            for rows in (("a", last), (last, "a"), ("a" * 5, last * 5)):
                answer = self.told_rightly(rules, *rows)
                self.assertEqual((type(answer), answer.many), (Apart, size - 1))

    def test_letters_in_another_turn(self):
        for many in (2, 5, 26):
            rules = some_rules("turn", many, 4)
            row = some_row("turn", many, 30)
            for other in (row, row[::-1], "".join(sorted(row))):
                self.assertIs(type(self.told_rightly(rules, row, other)), Alike)

    def test_other_letters_and_yet_alike(self):
        for rules, one, other in ((["b", "a"], "a", "b"), (["bb", "aa"], "ab", "bb"), (["ab", "c", "cc"], "ab", "ab"),
                                  (["bc", "cc", "aa"], "abc", "ccc"), (["", ""], "ab", "bb"), (RING, "a", "q")):
            self.assertIs(type(self.told_rightly(rules, one, other)), Alike)

    def test_the_empty_row(self):
        for rules in ([""], ["a"], ["", "ab"], RING):
            self.assertIs(type(self.told_rightly(rules, "", "")), Alike)
            for rows in (("", "a"), ("a", "")):
                answer = self.told_rightly(rules, *rows)
                self.assertEqual((type(answer), answer.many), (Apart, 0))

    def test_long_rules_and_rows_at_once(self):
        rules = [ALL_LETTERS * 4000] * 26
        with at_once():
            self.assertIs(type(lengths(rules, "ab" * 100000, "cz" * 100000)), Alike)
            self.assertIs(type(lengths(rules, "ab" * 100000, "cz" * 100000 + "a")), Apart)

    def test_two_askings_give_two_answers(self):
        lengths(["bb", "b"], "a", "b").many = 77
        self.assertEqual(self.told_rightly(["bb", "b"], "a", "b").many, 1)

    def test_refusals(self):
        wrong = [(0, WRONG_RULES, BadRules), (1, WRONG_ROWS, BadRow), (2, WRONG_ROWS, BadRow)]
        self.refused_in_turn(lengths, (["ab", "b"], "ab", "ba"), wrong)

    def test_rows_beyond_the_rules(self):
        for many in range(1, 26):
            rules = ["a"] * many
            beyond = "aa" + ALL_LETTERS[many]
            self.refused(BadRow, lengths, rules, "a", beyond)
            self.refused(BadRow, lengths, rules, beyond, "a")
            self.refused(BadRow, lengths, rules, beyond, beyond)


if __name__ == "__main__":
    unittest.main()
