"""What the tests share: values that are none, a slow but plain way to grow rows, and how a thing is asked."""

import contextlib
import copy
import itertools
import random
import signal
import unittest

ALL_LETTERS = "abcdefghijklmnopqrstuvwxyz"
LONG = 200000
# A number of more digits than Python shows.
HUGE = 10 ** 6000

# Rules of 26 letters: each one becomes the one behind it, the last one the first one again, or none.
RING = list(ALL_LETTERS[1:] + "a")
CHAIN = list(ALL_LETTERS[1:]) + [""]

NO_NUMBERS = (True, False, None, "", "0", "1", 0.0, 1.0, float("nan"), float("inf"), 1j, b"0", [], [0], (), (0,), {},
              {0: 0}, set(), object(), int)
NO_TEXTS = (None, True, False, 0, 1, 97, 1.5, b"", b"a", bytearray(b"a"), [], ["a"], (), ("a",), {}, {"a": "a"}, {"a"},
            object(), str)
NO_LISTS = (("a",), ("ab", "a"), "a", "ab", "", None, True, False, 0, 1, 26, 1.5, {}, {0: "a"}, {"a": "a"}, {"a"},
            frozenset({"a"}), b"a", object(), list, range(1), iter(["a"]))
# Signs beside the letters in the order of signs, and those that are like letters to the eye or to a loose test.
NO_LETTERS = ("A", "B", "Z", " ", "\n", "\t", "\r", "`", "{", "0", "1", "_", "-", "~")

# None of these is right for any rules, nor whatever else is handed in.
WRONG_RULES = NO_LISTS + ([], ["b"], ["ab", "c"], ["A"], ["a", None], [["a"]], ["a", 1], [True], ["a"] * 27)
WRONG_ROWS = NO_TEXTS + ("z", "az", "A", " ", "a\n", "1")
WRONG_LETTERS = NO_TEXTS + ("", "aa", "ab", "z", "A", " ", "1", "a\n")
WRONG_TIMES = NO_NUMBERS + (-1, 301, 1000, HUGE, -HUGE)
WRONG_PLACES = NO_NUMBERS + (-1, 100, HUGE, -HUGE)


def slow_once(rules, row):
    told = ""
    for sign in row:
        told += rules[ALL_LETTERS.index(sign)]
    return told


def slow_grown(rules, row, times):
    for step in range(times):
        row = slow_once(rules, row)
    return row


def slow_counts(rules, row):
    return [len([sign for sign in row if sign == letter]) for letter in ALL_LETTERS[:len(rules)]]


def some_rules(seed, many, longest):
    """Rules of that many letters, the same ones each time, of texts from none to so many letters."""
    choice = random.Random(f"rules {seed} {many} {longest}")
    letters = ALL_LETTERS[:many]
    return ["".join(choice.choices(letters, k=choice.randint(0, longest))) for letter in letters]


def some_row(seed, many, size):
    choice = random.Random(f"row {seed} {many} {size}")
    return "".join(choice.choices(ALL_LETTERS[:many], k=size))


def all_rules(many, longest):
    """All rules of that many letters with texts of up to so many letters."""
    own = ALL_LETTERS[:many]
    texts = ["".join(text) for size in range(longest + 1) for text in itertools.product(own, repeat=size)]
    return [list(rules) for rules in itertools.product(texts, repeat=many)]


def short_rows(many):
    """Some rows of rules of so many letters."""
    own = ALL_LETTERS[:many]
    return [row for row in ("", "a", "aa", "b", "ab", "bb", "bab", "c", "cba") if set(row) <= set(own)]


def late_rules(many):
    """Rules of so many letters by which the first letter and the last one are alike long until just below many."""
    own = ALL_LETTERS[:many]
    return list(own[1:-1]) + [own[-1] * 2, own[-1]]


def shown(handed):
    try:
        return repr(handed)[:80]
    except ValueError:
        return "a number of too many digits to be shown"


@contextlib.contextmanager
def at_once(seconds=20):
    """Far more time than is needed, and far less than growing would take."""
    def late(number, frame):
        raise AssertionError(f"not told within {seconds} seconds")

    before = signal.signal(signal.SIGALRM, late)
    signal.setitimer(signal.ITIMER_REAL, seconds)
    try:
        yield
    finally:
        signal.setitimer(signal.ITIMER_REAL, 0)
        signal.signal(signal.SIGALRM, before)


class AskingTest(unittest.TestCase):
    def refused(self, error, asked, *handed):
        with self.subTest(asked=asked.__name__, handed=shown(handed)):
            with self.assertRaises(error) as caught:
                asked(*handed)
            self.assertIs(type(caught.exception), error)

    def taken(self, check, *handed):
        with self.subTest(handed=shown(handed)):
            self.assertIsNone(self.told(check, *handed))

    def told(self, asked, *handed):
        """What is told, and what was handed in stands as it stood."""
        before = copy.deepcopy(handed)
        answer = asked(*handed)
        self.assertEqual(handed, before)
        return answer

    def refused_in_turn(self, asked, good, wrong):
        """wrong: (which thing, values that are wrong there, the refusal), in the turn in which the refusals go."""
        self.told(asked, *good)
        for number, (which, values, error) in enumerate(wrong):
            for value in values:
                handed = list(good)
                handed[which] = value
                self.refused(error, asked, *handed)
                self.refused_ahead_of(error, asked, handed, wrong[number + 1:])

    def refused_ahead_of(self, error, asked, handed, later):
        for many in range(1, len(later) + 1):
            for chosen in itertools.combinations(later, many):
                for turn in range(3):
                    worse = list(handed)
                    for which, values, unused in chosen:
                        worse[which] = values[turn % len(values)]
                    self.refused(error, asked, *worse)
