"""Points 2.1 to 2.3, and 0.2 to 0.6 as far as they touch these."""

import itertools
import unittest

from onceround.turns import is_least, is_prime, least_turn, parted, root, times_of, turn_by

# Words of 24 letters: of one letter, of parts told again and again, these with one letter put otherwise.
LONG = (
    "a" * 24,
    "f" * 24,
    "ab" * 12,
    "ba" * 12,
    "cab" * 8,
    "abcdef" * 4,
    "fedcba" * 4,
    "abacabadabac" * 2,
    "a" * 23 + "b",
    "b" + "a" * 23,
    "a" * 12 + "b" + "a" * 11,
    "b" * 23 + "a",
    "ab" * 11 + "aa",
    "ab" * 11 + "bb",
    "ab" * 5 + "ac" + "ab" * 6,
    "abcdef" * 3 + "abcdee",
    "abcdef" * 3 + "aacdef",
    "fedcba" * 3 + "fedcbb",
    "aab" * 7 + "aaa",
    "abacabadabacabaeabacabad",
)


def short_words():
    for kinds, longest in ((1, 12), (2, 9), (3, 6), (6, 3)):
        for length in range(1, longest + 1):
            for signs in itertools.product("abcdef"[:kinds], repeat=length):
                yield "".join(signs)


WORDS = tuple(short_words()) + LONG


def turns(word):
    return [word[by:] + word[:by] for by in range(len(word))]


def slow_root(word):
    beginnings = [word[:size] for size in range(1, len(word) + 1)]
    return next(text for text in beginnings if text * (len(word) // len(text)) == word)


def slow_is_prime(word):
    return all(word < turn for turn in turns(word)[1:])


def partings(word):
    """All ways to part a word into primes of which none is greater than the one ahead of it."""
    if word == "":
        return [[]]
    found = []
    for size in range(1, len(word) + 1):
        if slow_is_prime(word[:size]):
            found += [[word[:size]] + rest for rest in partings(word[size:]) if not rest or rest[0] <= word[:size]]
    return found


class Case(unittest.TestCase):
    def is_whole(self, found, awaited):
        self.assertIs(type(found), int)
        self.assertEqual(found, awaited)


class LeastTurns(Case):
    """Point 2.1."""

    def test_told_examples(self):
        self.assertEqual(least_turn("bca"), "abc")
        self.is_whole(turn_by("bca"), 2)
        self.assertEqual(least_turn("cabab"), "ababc")
        self.is_whole(turn_by("cabab"), 1)
        self.assertEqual(least_turn("a"), "a")
        self.is_whole(turn_by("f"), 0)

    def test_the_least_of_all_turns(self):
        for word in WORDS:
            with self.subTest(word):
                self.assertEqual(least_turn(word), min(turns(word)))

    def test_turn_by_is_the_least_number(self):
        for word in WORDS:
            with self.subTest(word):
                self.is_whole(turn_by(word), turns(word).index(min(turns(word))))

    def test_turn_by_of_a_part_told_again_and_again(self):
        self.is_whole(turn_by("baba"), 1)
        self.is_whole(turn_by("abab"), 0)
        self.is_whole(turn_by("a" * 24), 0)
        self.is_whole(turn_by("cab" * 8), 1)
        self.is_whole(turn_by("fedcba" * 4), 5)
        self.is_whole(turn_by("b" + "a" * 23), 1)
        self.is_whole(turn_by("b" * 23 + "a"), 23)

    def test_all_turns_have_one_least_turn(self):
        for word in LONG:
            for turn in turns(word):
                self.assertEqual(least_turn(turn), least_turn(word))

    def test_a_least_word_is_its_own_least_turn(self):
        for word in WORDS:
            with self.subTest(word):
                self.assertIs(is_least(word), word == min(turns(word)))

    def test_is_least_examples(self):
        for word in ("a", "f", "aa", "ab", "abab", "aab", "abac", "a" * 24, "ab" * 12, "a" * 23 + "b"):
            self.assertIs(is_least(word), True, word)
        for word in ("ba", "aba", "abaa", "cab", "ba" * 12, "b" + "a" * 23, "ab" * 11 + "aa"):
            self.assertIs(is_least(word), False, word)


class Roots(Case):
    """Point 2.2."""

    def test_told_examples(self):
        for word, awaited, times in (
            ("a", "a", 1), ("aa", "a", 2), ("ab", "ab", 1), ("abab", "ab", 2), ("baba", "ba", 2), ("aba", "aba", 1),
            ("abaab", "abaab", 1), ("aabaab", "aab", 2), ("a" * 24, "a", 24), ("ab" * 12, "ab", 12),
            ("fedcba" * 4, "fedcba", 4), ("abacabadabac" * 2, "abacabadabac", 2), ("a" * 23 + "b", "a" * 23 + "b", 1),
        ):
            with self.subTest(word):
                self.assertEqual(root(word), awaited)
                self.is_whole(times_of(word), times)

    def test_the_shortest_text_told_again_and_again(self):
        for word in WORDS:
            with self.subTest(word):
                self.assertEqual(root(word), slow_root(word))
                self.is_whole(times_of(word), len(word) // len(slow_root(word)))
                self.assertEqual(root(word) * times_of(word), word)

    def test_as_many_unlike_turns_as_letters_of_the_root(self):
        for word in WORDS:
            self.assertEqual(len(set(turns(word))), len(root(word)), word)

    def test_all_repeated_parts_up_to_24_letters(self):
        for part in ("a", "b", "ab", "ba", "aab", "cab", "aabb", "abac", "abcdef", "aaabab", "abacabad", "aabaabaabaac"):
            for times in range(1, 24 // len(part) + 1):
                self.assertEqual(root(part * times), part)
                self.is_whole(times_of(part * times), times)


class Primes(Case):
    """Point 2.2."""

    def test_told_examples(self):
        for word in ("a", "b", "f", "ab", "aab", "abac", "aabab", "a" * 23 + "b", "ab" * 11 + "bb"):
            self.assertIs(is_prime(word), True, word)
        for word in ("aa", "ba", "abab", "aba", "ff", "a" * 24, "ab" * 12, "b" * 23 + "a", "ab" * 11 + "aa"):
            self.assertIs(is_prime(word), False, word)

    def test_a_prime_is_less_than_each_other_turn(self):
        for word in WORDS:
            with self.subTest(word):
                self.assertIs(is_prime(word), slow_is_prime(word))

    def test_the_root_of_a_least_word_is_a_prime(self):
        for word in WORDS:
            self.assertIs(is_prime(root(least_turn(word))), True, word)

    def test_a_prime_told_again_is_a_least_word(self):
        for prime in ("a", "c", "ab", "aab", "abac", "abacabad"):
            for times in range(2, 24 // len(prime) + 1):
                self.assertIs(is_least(prime * times), True)
                self.assertIs(is_prime(prime * times), False)


class Parted(Case):
    """Point 2.3."""

    def test_told_examples(self):
        for word, awaited in (
            ("a", ["a"]), ("ba", ["b", "a"]), ("ab", ["ab"]), ("aa", ["a", "a"]), ("abab", ["ab", "ab"]),
            ("aba", ["ab", "a"]), ("abaab", ["ab", "aab"]), ("cabab", ["c", "ab", "ab"]), ("abcab", ["abc", "ab"]),
            ("fedcba" * 2, ["f", "e", "d", "c", "b", "afedcb", "a"]),
        ):
            with self.subTest(word):
                self.assertEqual(parted(word), awaited)

    def test_long_words(self):
        self.assertEqual(parted("a" * 24), ["a"] * 24)
        self.assertEqual(parted("ab" * 12), ["ab"] * 12)
        self.assertEqual(parted("ba" * 12), ["b"] + ["ab"] * 11 + ["a"])
        self.assertEqual(parted("a" * 23 + "b"), ["a" * 23 + "b"])
        self.assertEqual(parted("b" + "a" * 23), ["b"] + ["a"] * 23)
        self.assertEqual(parted("ab" * 11 + "aa"), ["ab"] * 11 + ["a", "a"])
        self.assertEqual(parted("abcdef" * 3 + "abcdee"), ["abcdef"] * 3 + ["abcdee"])

    def test_put_together_it_is_the_word(self):
        for word in WORDS:
            with self.subTest(word):
                told = parted(word)
                self.assertIs(type(told), list)
                self.assertEqual("".join(told), word)

    def test_primes_of_which_none_is_greater_than_the_one_ahead(self):
        for word in WORDS:
            with self.subTest(word):
                told = parted(word)
                for prime in told:
                    self.assertTrue(slow_is_prime(prime))
                for one, two in zip(told, told[1:]):
                    self.assertLessEqual(two, one)

    def test_just_one_way(self):
        for word in WORDS:
            if len(word) <= 7:
                self.assertEqual(partings(word), [parted(word)])

    def test_a_told_list_is_the_askers_own(self):
        one = parted("cabab")
        two = parted("cabab")
        one.append("x")
        one[0] = "y"
        self.assertEqual(two, ["c", "ab", "ab"])
        self.assertEqual(parted("cabab"), ["c", "ab", "ab"])


class Beyond(Case):
    """Nothing is refused for a text somewhat longer than told."""

    def test_longer_words(self):
        word = "cab" * 10
        self.assertEqual(least_turn(word), "abc" * 10)
        self.is_whole(turn_by(word), 1)
        self.assertEqual(root(word), "cab")
        self.is_whole(times_of(word), 10)
        self.assertIs(is_least(word), False)
        self.assertIs(is_prime(word), False)
        self.assertEqual(parted(word), ["c"] + ["abc"] * 9 + ["ab"])

    def test_texts_are_told(self):
        for told in (least_turn("ba"), root("abab"), parted("ba")[0]):
            self.assertIs(type(told), str)


if __name__ == "__main__":
    unittest.main()
