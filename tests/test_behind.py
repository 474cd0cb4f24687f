"""Point [3]: rules behind other rules."""

import unittest

from asking import (ALL_LETTERS, RING, WRONG_RULES, AskingTest, all_rules, at_once, short_rows, slow_grown, slow_once,
                    some_row, some_rules)
from growrow.errors import BadRules, OtherRules, TooLong
from growrow.growing import behind, grown, length

MOST = 100000


class BehindTest(AskingTest):
    def grow_as_both(self, one, other, rows):
        with self.subTest(one=one, other=other):
            both = self.told(behind, one, other)
            self.assertIs(type(both), list)
            self.assertEqual(len(both), len(one))
            self.assertEqual(both, [slow_once(other, text) for text in one])
            for row in rows:
                self.assertEqual(grown(both, row, 1), slow_once(other, slow_once(one, row)))
                self.assertEqual(grown(both, row, 1), grown(other, grown(one, row, 1), 1))

    def test_the_first_ones_then_the_second_ones(self):
        self.assertEqual(behind(["ab", "a"], ["b", "aa"]), ["baa", "b"])
        self.assertEqual(behind(["b", "aa"], ["ab", "a"]), ["a", "abab"])

    def test_all_rules_of_one_letter_and_of_two(self):
        for many, longest in ((1, 3), (2, 1)):
            for one in all_rules(many, longest):
                for other in all_rules(many, longest):
                    self.grow_as_both(one, other, short_rows(many))

    def test_some_rules_of_each_count_of_letters(self):
        for many in range(1, 27):
            rows = ["", ALL_LETTERS[:many], some_row("behind", many, 20)]
            self.grow_as_both(some_rules("one", many, 4), some_rules("other", many, 4), rows)

    def test_rules_behind_themselves(self):
        for rules in (["aa"], ["ab", "a"], ["", "ab"], [""] * 26, RING, some_rules(9, 26, 5)):
            self.grow_as_both(rules, rules, ("", "a", "aa"))
            self.assertEqual(behind(rules, rules), [slow_grown(rules, text, 1) for text in rules])
            self.assertEqual(length(behind(rules, rules), "aa", 150), length(rules, "aa", 300))

    def test_what_is_told_is_the_askers_own(self):
        one, other = ["b", "a"], ["a", "b"]
        told = behind(one, other)
        told[0] = "changed"
        told.append("more")
        self.assertEqual((one, other), (["b", "a"], ["a", "b"]))
        self.assertEqual(behind(one, other), ["b", "a"])
        same = ["a"]
        self.assertIsNot(behind(same, same), same)


class BoundTest(AskingTest):
    def test_just_100000_letters_and_one_more(self):
        self.assertEqual(behind(["a" * 50000, "b"], ["aa", "b"]), ["a" * MOST, "b"])
        self.refused(TooLong, behind, ["a" * 50000 + "b", "b"], ["aa", "b"])
        self.assertEqual(behind(["aa"], ["a" * 50000]), ["a" * MOST])
        self.refused(TooLong, behind, ["aaa"], ["a" * 50000])
        self.refused(TooLong, behind, ["a"], ["a" * (MOST + 1)])

    def test_each_text_by_itself(self):
        doubled = ["aa", "b", "c"]
        for which in range(3):
            one = ["", "", ""]
            one[which] = "a" * 49999 + "bb"
            self.assertEqual(behind(one, doubled)[which], "a" * 99998 + "bb")
            one[which] = "a" * 49999 + "bbc"
            self.refused(TooLong, behind, one, doubled)
        self.assertEqual(behind(["a" * MOST] * 26, ["a"] * 26), ["a" * MOST] * 26)

    def test_the_texts_handed_in_may_be_longer(self):
        self.assertEqual(behind(["a" * 3 * MOST + "b", "a"], ["", "b"]), ["b", ""])
        self.assertEqual(behind(["ab" * MOST, "a"], ["", "b"]), ["b" * MOST, ""])
        self.refused(TooLong, behind, ["ab" * MOST + "b", "a"], ["", "b"])
        self.assertEqual(behind(["a", "a"], ["b", "b" * 3 * MOST]), ["b", "b"])
        self.refused(TooLong, behind, ["a" * (MOST + 1)], ["a"])

    def test_far_too_long_ones_are_refused_at_once(self):
        with at_once():
            self.refused(TooLong, behind, ["a" * 10 * MOST], ["a" * 10 * MOST])


class RefusalTest(AskingTest):
    def test_the_one_then_the_other(self):
        for other in WRONG_RULES:
            self.refused(BadRules, behind, other, ["a"])
            self.refused(BadRules, behind, ["a"], other)
            self.refused(BadRules, behind, ["ab", "a", "cc"], other)
            self.refused(BadRules, behind, ["a" * MOST + "aa"], other)
            self.refused(BadRules, behind, other, other)

    def test_as_many_letters_in_both(self):
        for one in (1, 2, 3, 25, 26):
            for other in (1, 2, 3, 25, 26):
                if one == other:
                    self.assertEqual(behind(["a"] * one, ["a"] * other), ["a"] * one)
                else:
                    self.refused(OtherRules, behind, ["a"] * one, ["a"] * other)

    def test_other_rules_ahead_of_too_long(self):
        self.refused(OtherRules, behind, ["a" * MOST + "aa"], ["aa", "b"])
        self.refused(OtherRules, behind, ["a", "b"], ["a" * MOST + "aa"])
        self.refused(OtherRules, behind, ["aa" * MOST, "b"], ["aa" * MOST])


if __name__ == "__main__":
    unittest.main()
