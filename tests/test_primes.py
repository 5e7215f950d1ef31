"""Points 2.4 and 2.5, point 2.2 for all least words and primes of a length, and 0.2 to 0.6 as they touch these."""

import itertools
import unittest

from onceround.errors import BadKinds, BadWord, OnceError, TooMany
from onceround.primes import last_least, least_beginning, leasts, next_least, primes_of, word_count
from onceround.turns import is_least, is_prime, root

GREAT = 10 ** 59
# Numbers of more figures than Python writes as a text without being told so.
VAST = 10 ** 6000
WRONG_KINDS = (0, 7, 8, 26, -1, -2, -6, -7, GREAT, -GREAT, VAST, -VAST)
WRONG_LENGTHS = (0, 25, 26, -1, -24, GREAT, -GREAT, VAST, -VAST)
STRANGE_SIGNS = ("g", "z", "A", "F", "`", " ", "\n", "\0", "0", "-", "\u00e4", "\u0430", "\ud800", "\U0001f600")
# Kinds, and the longest words of them that are gone through one by one.
GONE_THROUGH = ((1, 24), (2, 9), (3, 6), (4, 4), (5, 3), (6, 3))


def all_sizes():
    return [(length, kinds) for kinds, longest in GONE_THROUGH for length in range(1, longest + 1)]


def words_in_order(length, kinds):
    return ["".join(signs) for signs in itertools.product("abcdef"[:kinds], repeat=length)]


def turns(word):
    return [word[by:] + word[:by] for by in range(len(word))]


def slow_leasts(length, kinds):
    return [word for word in words_in_order(length, kinds) if word == min(turns(word))]


def slow_primes(length, kinds):
    return [word for word in words_in_order(length, kinds) if all(word < turn for turn in turns(word)[1:])]


def word_ahead(word, kinds):
    kept = word.rstrip("a")
    lesser = chr(ord(kept[-1]) - 1)
    return kept[:-1] + lesser + "abcdef"[kinds - 1] * (len(word) - len(kept))


class Case(unittest.TestCase):
    def refused(self, refusal, deed, *handed):
        with self.assertRaises(OnceError) as taken:
            deed(*handed)
        self.assertIs(type(taken.exception), refusal)

    def is_whole(self, found, awaited):
        self.assertIs(type(found), int)
        self.assertEqual(found, awaited)


class WordCount(Case):
    def test_each_length_and_kinds(self):
        for kinds in range(1, 7):
            for length in range(1, 25):
                self.is_whole(word_count(length, kinds), kinds ** length)

    def test_as_many_as_are_gone_through(self):
        for length, kinds in all_sizes():
            self.is_whole(word_count(length, kinds), len(words_in_order(length, kinds)))

    def test_told_in_full(self):
        self.is_whole(word_count(24, 6), 4738381338321616896)
        self.is_whole(word_count(24, 1), 1)


class Lists(Case):
    """leasts and primes_of, points 2.1 and 2.2."""

    def test_told_examples(self):
        self.assertEqual(leasts(1, 1), ["a"])
        self.assertEqual(primes_of(1, 1), ["a"])
        self.assertEqual(leasts(2, 2), ["aa", "ab", "bb"])
        self.assertEqual(primes_of(2, 2), ["ab"])
        self.assertEqual(leasts(4, 2), ["aaaa", "aaab", "aabb", "abab", "abbb", "bbbb"])
        self.assertEqual(primes_of(4, 2), ["aaab", "aabb", "abbb"])
        self.assertEqual(leasts(1, 6), ["a", "b", "c", "d", "e", "f"])
        self.assertEqual(primes_of(1, 6), ["a", "b", "c", "d", "e", "f"])

    def test_one_kind(self):
        for length in range(2, 25):
            self.assertEqual(leasts(length, 1), ["a" * length])
            self.assertEqual(primes_of(length, 1), [])

    def test_all_words_gone_through(self):
        for length, kinds in all_sizes():
            with self.subTest(length=length, kinds=kinds):
                for told, awaited in (
                    (leasts(length, kinds), slow_leasts(length, kinds)),
                    (primes_of(length, kinds), slow_primes(length, kinds)),
                ):
                    self.assertIs(type(told), list)
                    self.assertEqual(told, awaited)

    def test_just_4096_words_are_told(self):
        for length, kinds in ((12, 2), (6, 4)):
            with self.subTest(length=length, kinds=kinds):
                self.is_whole(word_count(length, kinds), 4096)
                self.assertEqual(leasts(length, kinds), slow_leasts(length, kinds))
                self.assertEqual(primes_of(length, kinds), slow_primes(length, kinds))

    def test_more_than_4096_words_are_refused(self):
        for length, kinds in ((13, 2), (24, 2), (8, 3), (24, 3), (7, 4), (24, 4), (6, 5), (24, 5), (5, 6), (24, 6)):
            with self.subTest(length=length, kinds=kinds):
                self.refused(TooMany, leasts, length, kinds)
                self.refused(TooMany, primes_of, length, kinds)

    def test_the_longest_lists_below(self):
        for length, kinds in ((7, 3), (5, 5), (4, 6)):
            with self.subTest(length=length, kinds=kinds):
                self.assertEqual(leasts(length, kinds), slow_leasts(length, kinds))
                self.assertEqual(primes_of(length, kinds), slow_primes(length, kinds))

    def test_a_told_list_is_the_askers_own(self):
        for deed, awaited in ((leasts, ["aaa", "aab", "abb", "bbb"]), (primes_of, ["aab", "abb"])):
            one = deed(3, 2)
            two = deed(3, 2)
            one.reverse()
            one[0] = "x"
            one.append("y")
            self.assertEqual(two, awaited)
            two.clear()
            self.assertEqual(deed(3, 2), awaited)

    def test_the_root_of_a_least_word_is_a_prime(self):
        for length, kinds in all_sizes() + [(12, 2), (6, 4)]:
            for word in leasts(length, kinds):
                part = root(word)
                self.assertTrue(all(part < turn for turn in turns(part)[1:]), word)
                self.assertIs(is_prime(part), True, word)

    def test_a_prime_put_together_with_itself_is_a_least_word(self):
        for length, kinds in ((1, 6), (2, 4), (3, 3), (4, 2), (5, 2), (6, 2), (8, 2), (12, 2)):
            for prime in primes_of(length, kinds):
                for times in range(1, 24 // length + 1):
                    word = prime * times
                    self.assertEqual(word, min(turns(word)))
                    self.assertIs(is_least(word), True)
                    self.assertEqual(root(word), prime)
                    self.assertEqual(last_least(word, kinds), word)

    def test_least_words_are_primes_of_dividing_lengths_put_together(self):
        for length, kinds in ((12, 2), (6, 3), (4, 4)):
            dividing = [size for size in range(1, length + 1) if length % size == 0]
            made = [prime * (length // size) for size in dividing for prime in primes_of(size, kinds)]
            self.assertEqual(sorted(made), leasts(length, kinds))


class Beginnings(Case):
    """Point 2.4."""

    def test_told_examples(self):
        self.assertEqual(least_beginning("", 3, 2), "aaa")
        self.assertEqual(least_beginning("b", 3, 2), "bbb")
        self.assertEqual(least_beginning("ab", 3, 3), "abb")
        self.assertEqual(least_beginning("ab", 4, 2), "abab")
        self.assertEqual(least_beginning("aab", 5, 2), "aabab")
        self.assertIsNone(least_beginning("ba", 3, 2))
        self.assertIsNone(least_beginning("aba", 3, 2))

    def test_all_texts_gone_through(self):
        for length, kinds in ((1, 6), (2, 6), (3, 4), (4, 3), (5, 3), (6, 2), (7, 2), (8, 2), (5, 1)):
            least_words = slow_leasts(length, kinds)
            for size in range(length + 2):
                for text in words_in_order(size, kinds):
                    with self.subTest(text=text, length=length, kinds=kinds):
                        begun = [word for word in least_words if word.startswith(text)]
                        self.assertEqual(least_beginning(text, length, kinds), min(begun, default=None))
                        top = "abcdef"[kinds - 1]
                        if begun:
                            self.assertEqual(max(begun), text + top * (length - size))

    def test_the_empty_text(self):
        for kinds in range(1, 7):
            for length in range(1, 25):
                self.assertEqual(least_beginning("", length, kinds), "a" * length)

    def test_a_text_as_long_as_the_length(self):
        for kinds in range(2, 7):
            for word in ("a" * 24, "ab" * 12, "aab" * 8, "a" * 23 + "b", "b" * 24, "ab" * 11 + "bb"):
                self.assertEqual(least_beginning(word, 24, kinds), word)
            for word in ("ba" * 12, "b" + "a" * 23, "ab" * 11 + "aa", "b" * 23 + "a"):
                self.assertIsNone(least_beginning(word, 24, kinds))

    def test_a_longer_text_than_the_length(self):
        for text in ("aa", "ab", "a" * 24, "ab" * 12, "bb"):
            for length in range(1, len(text)):
                for kinds in (2, 3, 6):
                    with self.subTest(text=text, length=length, kinds=kinds):
                        self.assertIsNone(least_beginning(text, length, kinds))
        self.assertIsNone(least_beginning("a" * 24, 23, 1))

    def test_words_of_24_letters(self):
        self.assertEqual(least_beginning("b", 24, 6), "b" * 24)
        self.assertEqual(least_beginning("ab", 24, 2), "ab" * 12)
        self.assertEqual(least_beginning("aab", 24, 3), "aab" * 8)
        self.assertEqual(least_beginning("abcdefab", 24, 6), "abcdef" * 4)
        self.assertEqual(least_beginning("a" * 23 + "b", 24, 2), "a" * 23 + "b")
        # Seven letters don't go into 24: with aaa at the end, a turn would begin with nine times a.
        self.assertEqual(least_beginning("aaaaaab", 24, 2), "aaaaaab" * 3 + "aab")
        self.assertIsNone(least_beginning("aba" + "a", 24, 2))
        self.assertIsNone(least_beginning("fe", 24, 6))

    def test_the_text_is_refused_as_looked_tells(self):
        for kinds in range(1, 7):
            for length in (1, 3, 24):
                for text in ("a" * 25, "a" * 26, "a" * 5000):
                    self.refused(BadWord, least_beginning, text, length, kinds)
                for sign in STRANGE_SIGNS:
                    for text in (sign, "a" + sign, sign + "a" * 23, "a" * 23 + sign):
                        self.refused(BadWord, least_beginning, text, length, kinds)
        for kinds in range(1, 6):
            for text in ("abcdef"[kinds], "a" + "abcdef"[kinds], "abcdef"[kinds] * 24):
                self.refused(BadWord, least_beginning, text, 3, kinds)
                self.assertIn(least_beginning("abcdef"[kinds], 1, kinds + 1), "abcdef")


class NextAndLast(Case):
    """Point 2.5."""

    def test_told_examples(self):
        self.assertEqual(next_least("aaa", 2), "aab")
        self.assertEqual(next_least("aab", 2), "abb")
        self.assertEqual(next_least("aba", 2), "abb")
        self.assertEqual(next_least("baa", 2), "bbb")
        self.assertEqual(last_least("aba", 2), "aab")
        self.assertEqual(last_least("abb", 2), "abb")
        self.assertEqual(last_least("bba", 2), "abb")
        self.assertEqual(last_least("bba", 3), "acc")

    def test_all_words_gone_through(self):
        for length, kinds in all_sizes():
            least_words = slow_leasts(length, kinds)
            for word in words_in_order(length, kinds):
                with self.subTest(word=word, kinds=kinds):
                    greater = [other for other in least_words if other > word]
                    others = [other for other in least_words if other <= word]
                    self.assertEqual(next_least(word, kinds), min(greater, default=None))
                    self.assertEqual(last_least(word, kinds), max(others))

    def test_top_letters_alone_have_no_next_one(self):
        for kinds in range(1, 7):
            for length in range(1, 25):
                word = "abcdef"[kinds - 1] * length
                self.assertIsNone(next_least(word, kinds))
                self.assertEqual(last_least(word, kinds), word)

    def test_the_first_letter_alone(self):
        for kinds in range(2, 7):
            for length in range(1, 25):
                word = "a" * length
                self.assertEqual(last_least(word, kinds), word)
                self.assertEqual(next_least(word, kinds), "a" * (length - 1) + "b")

    def test_words_of_24_letters(self):
        self.assertEqual(next_least("ab" * 12, 2), "ab" * 11 + "bb")
        self.assertEqual(next_least("ab" * 12, 3), "ab" * 11 + "ac")
        self.assertEqual(next_least("ba" * 12, 2), "b" * 24)
        self.assertEqual(next_least("b" + "a" * 23, 6), "b" * 24)
        self.assertEqual(next_least("f" * 23 + "a", 6), "f" * 24)
        self.assertEqual(next_least("abcdef" * 3 + "abcdee", 6), "abcdef" * 4)
        self.assertEqual(last_least("b" + "a" * 23, 2), "a" + "b" * 23)
        self.assertEqual(last_least("b" + "a" * 23, 6), "a" + "f" * 23)
        self.assertEqual(last_least("a" * 22 + "ba", 2), "a" * 23 + "b")
        self.assertEqual(last_least("f" * 23 + "e", 6), "e" + "f" * 23)
        # No least word that begins with abcdef is less than abcdef told four times.
        self.assertEqual(last_least("abcdef" * 3 + "abcdee", 6), "abcdee" + "f" * 18)

    def test_nothing_lies_between_long_least_words(self):
        for kinds in (2, 3, 6):
            for word in ("a" * 24, "ab" * 12, "aab" * 8, "aabab" * 4 + "abab", "abb" * 8, "ab" * 11 + "bb"):
                with self.subTest(word=word, kinds=kinds):
                    behind = next_least(word, kinds)
                    self.assertEqual(behind, min(turns(behind)))
                    self.assertGreater(behind, word)
                    ahead = word_ahead(behind, kinds)
                    self.assertEqual(last_least(ahead, kinds), word)
                    self.assertEqual(next_least(ahead, kinds), behind)

    def test_step_by_step_all_least_words_come(self):
        for length, kinds in ((12, 2), (7, 3), (6, 4), (4, 6), (24, 1)):
            found = []
            word = "a" * length
            while word is not None:
                found.append(word)
                word = next_least(word, kinds)
            self.assertEqual(found, slow_leasts(length, kinds))


class Refusals(Case):
    """Points 0.5, 1.1 and 1.2, in the told order."""

    def test_wrong_kinds_go_first(self):
        for kinds in WRONG_KINDS:
            with self.subTest(kinds % 10 ** 9):
                for length in (1, 12, 13, 24) + WRONG_LENGTHS:
                    self.refused(BadKinds, word_count, length, kinds)
                    self.refused(BadKinds, leasts, length, kinds)
                    self.refused(BadKinds, primes_of, length, kinds)
                    for text in ("", "a", "g", "a" * 25):
                        self.refused(BadKinds, least_beginning, text, length, kinds)
                for word in ("a", "", "g", "a" * 24, "a" * 25, "?" * 30):
                    self.refused(BadKinds, next_least, word, kinds)
                    self.refused(BadKinds, last_least, word, kinds)

    def test_wrong_lengths_are_bad_words_ahead_of_too_many(self):
        for kinds in range(1, 7):
            for length in WRONG_LENGTHS:
                with self.subTest(kinds=kinds, length=length % 10 ** 9):
                    self.refused(BadWord, word_count, length, kinds)
                    self.refused(BadWord, leasts, length, kinds)
                    self.refused(BadWord, primes_of, length, kinds)
                    for text in ("", "a", "ba", "g", "a" * 25):
                        self.refused(BadWord, least_beginning, text, length, kinds)

    def test_words_without_a_letter_and_of_25_letters(self):
        for kinds in range(1, 7):
            for word in ("", "a" * 25, "a" * 26, "a" * 5000):
                self.refused(BadWord, next_least, word, kinds)
                self.refused(BadWord, last_least, word, kinds)

    def test_a_sign_that_is_none_of_the_letters(self):
        for kinds in range(1, 7):
            for sign in STRANGE_SIGNS + tuple("abcdef"[kinds:]):
                for word in (sign, sign + "aa", "a" + sign + "a", "aa" + sign, "a" * 23 + sign):
                    with self.subTest(word=repr(word), kinds=kinds):
                        self.refused(BadWord, next_least, word, kinds)
                        self.refused(BadWord, last_least, word, kinds)


if __name__ == "__main__":
    unittest.main()
