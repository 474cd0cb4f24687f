"""Points [4] and [5]: the answers, and whether they are so, of answers made by hand."""

import itertools
import unittest

from asking import (ALL_LETTERS, CHAIN, HUGE, RING, AskingTest, all_rules, at_once, late_rules, short_rows, slow_grown,
                    some_row, some_rules)
from growrow import answers
from growrow.answers import Alike, Answer, Apart, Shut, Times

NAMES = ("Times", "Shut", "Alike", "Apart")
FAR = (-1, -2, -26, 27, 28, 300, 301, 10 ** 30, -10 ** 30, HUGE, -HUGE)


def slow_times(rules, many, one, other):
    return 0 <= many <= len(rules) and other in slow_grown(rules, one, many)


def slow_shut(rules, letters, one, other):
    own = ALL_LETTERS[:len(rules)]
    closed = all(sign in own and set(rules[own.index(sign)]) <= set(letters) for sign in letters)
    return one in letters and other not in letters and closed


def slow_apart(rules, many, one, other):
    if not 0 <= many < len(rules):
        return False
    return len(slow_grown(rules, one, many)) != len(slow_grown(rules, other, many))


class AnswerTest(AskingTest):
    def shows(self, wanted, answer, rules, one, other):
        with self.subTest(answer=answer.__class__.__name__, rules=rules, one=one, other=other):
            before = dict(vars(answer))
            self.assertIs(self.told(answer.shows, rules, one, other), wanted)
            self.assertEqual(vars(answer), before)


class ClassTest(unittest.TestCase):
    def test_each_stands_straight_under_answer(self):
        self.assertEqual(Answer.__bases__, (object,))
        for name in NAMES:
            self.assertEqual(getattr(answers, name).__bases__, (Answer,))

    def test_the_fields(self):
        for many in (0, 1, 7, -1, HUGE):
            self.assertEqual(Times(many).many, many)
            self.assertEqual(Apart(many).many, many)
        for letters in ("", "a", "cba", "aab", "xyz"):
            self.assertEqual(Shut(letters).letters, letters)
        self.assertEqual(vars(Alike()), {})

    def test_the_names_of_the_arguments(self):
        self.assertEqual(Times(many=3).many, 3)
        self.assertEqual(Apart(many=3).many, 3)
        self.assertEqual(Shut(letters="ab").letters, "ab")
        self.assertIs(Times(1).shows(rules=["b", "a"], one="a", other="b"), True)
        self.assertIs(Shut("a").shows(rules=["a", "a"], one="a", other="b"), True)
        self.assertIs(Alike().shows(rules=["b", "a"], one="a", other="b"), True)
        self.assertIs(Apart(0).shows(rules=["b", "a"], one="a", other="bb"), True)


class TimesTest(AnswerTest):
    def test_all_short_rules_and_some_longer_ones(self):
        for rules in all_rules(1, 2) + all_rules(2, 2) + all_rules(3, 1) + [some_rules(8, 5, 2)]:
            own = ALL_LETTERS[:len(rules)]
            for one, other in itertools.product(own, own):
                for many in range(-1, len(rules) + 3):
                    self.shows(slow_times(rules, many, one, other), Times(many), rules, one, other)

    def test_after_just_so_many_times(self):
        self.shows(True, Times(1), ["b", "a"], "a", "b")
        self.shows(False, Times(2), ["b", "a"], "a", "b")
        self.shows(True, Times(2), ["b", "a"], "a", "a")
        self.shows(False, Times(1), ["b", "a"], "a", "a")
        self.shows(True, Times(0), ["b", "a"], "a", "a")
        self.shows(False, Times(0), ["b", "a"], "a", "b")
        self.shows(True, Times(0), [""], "a", "a")
        self.shows(False, Times(1), [""], "a", "a")

    def test_no_more_than_there_are_letters(self):
        # Grown three times a becomes b again, but three is more than two letters.
        self.shows(False, Times(3), ["b", "a"], "a", "b")
        self.shows(True, Times(1), ["a"], "a", "a")
        self.shows(False, Times(2), ["a"], "a", "a")
        self.shows(True, Times(26), RING, "c", "c")
        self.shows(True, Times(25), RING, "a", "z")
        self.shows(True, Times(26), [ALL_LETTERS] * 26, "q", "z")
        self.shows(False, Times(27), [ALL_LETTERS] * 26, "q", "z")
        self.shows(True, Times(25), CHAIN, "a", "z")
        self.shows(False, Times(26), CHAIN, "a", "z")

    def test_far_counts_at_once(self):
        with at_once():
            for many in FAR:
                self.shows(False, Times(many), [ALL_LETTERS] * 26, "a", "b")
                self.shows(False, Times(many), ["a"], "a", "a")

    def test_long_rules_at_once(self):
        rules = [ALL_LETTERS * 4000] * 26
        with at_once():
            self.shows(True, Times(26), rules, "a", "z")

    def test_the_field_as_it_stands_then(self):
        answer = Times(1)
        self.shows(True, answer, ["b", "a"], "a", "b")
        for many, wanted in ((2, False), (HUGE, False), (1, True), (-1, False), (0, False)):
            answer.many = many
            self.shows(wanted, answer, ["b", "a"], "a", "b")


class ShutTest(AnswerTest):
    def test_all_short_rules_and_texts(self):
        texts = ["".join(text) for size in range(4) for text in itertools.product("abcd", repeat=size)]
        for rules in all_rules(1, 1) + all_rules(2, 1) + [["b", "ab", "a"], ["c", "cb", "ac"], ["", "", ""]]:
            own = ALL_LETTERS[:len(rules)]
            for text in texts:
                for one, other in itertools.product(own, own):
                    self.shows(slow_shut(rules, text, one, other), Shut(text), rules, one, other)

    def test_letters_in_any_turn_and_twice(self):
        rules = ["bc", "ca", "ab", "d"]
        for text in ("abc", "cba", "bca", "aabbcc", "cabac"):
            self.shows(True, Shut(text), rules, "a", "d")
            self.shows(True, Shut(text), rules, "c", "d")
        for text in ("ab", "bca" * 3 + "d", "aa", "d", "ca"):
            self.shows(False, Shut(text), rules, "a", "d")
        self.shows(True, Shut("dd"), rules, "d", "a")

    def test_the_text_of_none(self):
        for rules in ([""], ["a"], ["a", "b"]):
            self.shows(False, Shut(""), rules, "a", "a")
        self.shows(False, Shut(""), ["", ""], "a", "b")

    def test_a_letter_with_itself_is_never_shut(self):
        for text in ("", "a", "b", "ab"):
            self.shows(False, Shut(text), ["", ""], "a", "a")

    def test_letters_that_the_rules_dont_have(self):
        self.shows(True, Shut("a"), ["a", "b"], "a", "b")
        for text in ("ac", "ca", "az", "za", "acz", "z"):
            self.shows(False, Shut(text), ["a", "b"], "a", "b")
        self.shows(False, Shut(ALL_LETTERS[2:]), ["a", "b"], "a", "b")
        self.shows(False, Shut("a" + ALL_LETTERS[2:]), ["a", "b"], "a", "b")

    def test_26_letters(self):
        rules = ["z"] + [ALL_LETTERS[:which] for which in range(1, 25)] + ["a"]
        self.shows(True, Shut("az"), rules, "a", "b")
        self.shows(True, Shut("za"), rules, "z", "y")
        self.shows(False, Shut("abcz"), rules, "a", "b")
        self.shows(True, Shut("zcba"), rules, "c", "d")
        self.shows(False, Shut("zca"), rules, "c", "d")
        self.shows(False, Shut(ALL_LETTERS), rules, "c", "d")

    def test_long_texts_and_rules_at_once(self):
        with at_once():
            self.shows(True, Shut("ab" * 200000), ["ab" * 200000, "a", "c"], "a", "c")
            self.shows(False, Shut("ab" * 200000), ["ab" * 200000, "a", "c"], "c", "a")
            self.shows(False, Shut("ab" * 200000), ["ab" * 200000 + "c", "a", "c"], "a", "c")

    def test_the_field_as_it_stands_then(self):
        answer = Shut("ab")
        self.shows(True, answer, ["b", "a", "c"], "a", "c")
        for text, wanted in (("a", False), ("ba", True), ("", False), ("abc", False), ("aab", True), ("abz", False)):
            answer.letters = text
            self.shows(wanted, answer, ["b", "a", "c"], "a", "c")


class LengthsTest(AnswerTest):
    def shows_by_slow_ways(self, rules, one, other):
        apart = [slow_apart(rules, many, one, other) for many in range(len(rules))]
        self.shows(not any(apart), Alike(), rules, one, other)
        for many in range(-1, len(rules) + 2):
            wanted = apart[many] if 0 <= many < len(rules) else False
            self.shows(wanted, Apart(many), rules, one, other)

    def test_all_short_rules(self):
        for rules in all_rules(1, 2) + all_rules(2, 2) + all_rules(3, 1):
            for one, other in itertools.product(short_rows(len(rules)), repeat=2):
                self.shows_by_slow_ways(rules, one, other)

    def test_some_longer_rules(self):
        for many in (4, 5, 6):
            rules = some_rules("lengths", many, 2)
            for one, other in itertools.product(range(5), range(5)):
                self.shows_by_slow_ways(rules, some_row(one, many, 3), some_row(other, many, 3))

    def test_apart_by_other_lengths_after_just_so_many_times(self):
        self.shows(True, Apart(0), ["b", "b"], "a", "bb")
        self.shows(True, Apart(1), ["bb", "b"], "a", "b")
        self.shows(False, Apart(0), ["bb", "b"], "a", "b")
        self.shows(False, Alike(), ["bb", "b"], "a", "b")
        # Apart again and again, but told by counts below two alone.
        self.shows(False, Apart(2), ["bb", "b"], "a", "b")
        self.shows(False, Apart(1), [""], "a", "")
        self.shows(True, Apart(0), [""], "a", "")
        self.shows(False, Apart(1), ["aa"], "a", "aa")

    def test_letters_in_another_turn(self):
        rules = some_rules("turn", 26, 4)
        row = some_row("turn", 26, 50)
        self.shows(True, Alike(), rules, row, row[::-1])
        for many in range(26):
            self.shows(False, Apart(many), rules, row, row[::-1])
        self.shows(False, Alike(), rules, row, row[::-1] + "a")
        self.shows(True, Apart(0), rules, row, row[::-1] + "a")

    def test_apart_at_the_last_count_alone(self):
        for size in range(2, 27):
            rules, last = late_rules(size), ALL_LETTERS[size - 1]
            for many in range(size - 1):
                self.shows(False, Apart(many), rules, "a", last)
            self.shows(True, Apart(size - 1), rules, "a", last)
            self.shows(False, Apart(size), rules, "a", last)
            self.shows(False, Alike(), rules, "a", last)

    def test_far_counts_at_once(self):
        with at_once():
            for many in FAR:
                self.shows(False, Apart(many), [ALL_LETTERS] * 26, "a", "bb")
                self.shows(False, Apart(many), ["a"], "a", "aa")

    def test_long_rules_and_rows_at_once(self):
        rules = [ALL_LETTERS * 4000] * 26
        with at_once():
            self.shows(True, Alike(), rules, "ab" * 100000, "cz" * 100000)
            self.shows(True, Apart(25), rules, "ab" * 100000, "cz" * 100000 + "a")
            self.shows(False, Apart(25), rules, "ab" * 100000, "cz" * 100000)

    def test_the_field_as_it_stands_then(self):
        answer = Apart(1)
        self.shows(True, answer, ["bb", "b"], "a", "b")
        for many, wanted in ((0, False), (1, True), (2, False), (-1, False), (HUGE, False)):
            answer.many = many
            self.shows(wanted, answer, ["bb", "b"], "a", "b")


if __name__ == "__main__":
    unittest.main()
