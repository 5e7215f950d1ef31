"""Points 1.1 to 1.5, and 0.2 to 0.6 as far as they touch these."""

import itertools
import unittest

from onceround.errors import BadKinds, BadWord, NoSuch, OnceError, TooMany
from onceround.words import all_words, letters, looked, mirrored, number_of, turned, windows, word_of

GREAT = 10 ** 59
# Numbers of more figures than Python writes as a text without being told so.
VAST = 10 ** 6000
WRONG_KINDS = (0, 7, 8, 26, -1, -2, -6, -7, GREAT, -GREAT, VAST, -VAST)
WRONG_LENGTHS = (0, 25, 26, -1, -24, GREAT, -GREAT, VAST, -VAST)
STRANGE_SIGNS = ("g", "z", "A", "F", "`", " ", "\n", "\0", "0", "1", "-", "\u00e4", "\u0430", "\ud800", "\U0001f600")


def words_in_order(length, kinds):
    return sorted("".join(signs) for signs in itertools.product("abcdef"[:kinds], repeat=length))


class Case(unittest.TestCase):
    def refused(self, refusal, deed, *handed):
        with self.assertRaises(OnceError) as taken:
            deed(*handed)
        self.assertIs(type(taken.exception), refusal)

    def is_whole(self, found, awaited):
        self.assertIs(type(found), int)
        self.assertEqual(found, awaited)


class Kinds(Case):
    """Point 1.1."""

    def test_letters_of_each_kinds(self):
        told = [letters(kinds) for kinds in range(1, 7)]
        self.assertEqual(told, ["a", "ab", "abc", "abcd", "abcde", "abcdef"])

    def test_each_function_refuses_wrong_kinds(self):
        for kinds in WRONG_KINDS:
            with self.subTest(kinds % 10 ** 9):
                self.refused(BadKinds, letters, kinds)
                self.refused(BadKinds, looked, "a", kinds)
                self.refused(BadKinds, number_of, "a", kinds)
                self.refused(BadKinds, word_of, 0, 1, kinds)
                self.refused(BadKinds, all_words, 1, kinds)

    def test_wrong_kinds_go_ahead_of_bad_word(self):
        for kinds in WRONG_KINDS:
            with self.subTest(kinds % 10 ** 9):
                for word in ("", "a" * 25, "g", "aGa", "?" * 30):
                    self.refused(BadKinds, looked, word, kinds)
                    self.refused(BadKinds, number_of, word, kinds)
                for length in WRONG_LENGTHS:
                    self.refused(BadKinds, word_of, 0, length, kinds)
                    self.refused(BadKinds, word_of, -1, length, kinds)
                    self.refused(BadKinds, all_words, length, kinds)

    def test_wrong_kinds_go_ahead_of_no_such_and_too_many(self):
        for kinds in WRONG_KINDS:
            with self.subTest(kinds % 10 ** 9):
                for number in (-1, GREAT, -GREAT, VAST):
                    self.refused(BadKinds, word_of, number, 3, kinds)
                for length in (5, 13, 24):
                    self.refused(BadKinds, all_words, length, kinds)


class Looked(Case):
    """Point 1.2."""

    def test_none_is_told_of_a_word(self):
        for kinds in range(1, 7):
            known = "abcdef"[:kinds]
            for word in ("a", known, known[-1], known[-1] * 24, (known * 24)[:24], "a" * 24, "a" * 23):
                with self.subTest(word=word, kinds=kinds):
                    self.assertIsNone(looked(word, kinds))

    def test_a_text_without_a_sign_is_refused(self):
        for kinds in range(1, 7):
            self.refused(BadWord, looked, "", kinds)
            self.refused(BadWord, number_of, "", kinds)

    def test_more_than_24_signs_are_refused(self):
        for kinds in range(1, 7):
            for length in (25, 26, 48, 5000):
                with self.subTest(kinds=kinds, length=length):
                    self.refused(BadWord, looked, "a" * length, kinds)
                    self.refused(BadWord, number_of, "a" * length, kinds)

    def test_a_strange_sign_at_any_place_is_refused(self):
        for sign in STRANGE_SIGNS:
            for length in (1, 2, 3, 12, 24):
                for place in sorted({0, length // 2, length - 1}):
                    word = "a" * place + sign + "a" * (length - 1 - place)
                    for kinds in range(1, 7):
                        with self.subTest(word=repr(word), kinds=kinds):
                            self.refused(BadWord, looked, word, kinds)
                            self.refused(BadWord, number_of, word, kinds)

    def test_the_first_letter_beyond_the_kinds_is_refused(self):
        for kinds in range(1, 6):
            sign = "abcdef"[kinds]
            for word in (sign, sign + "aa", "a" + sign + "a", "aa" + sign, "a" * 23 + sign):
                with self.subTest(word=word, kinds=kinds):
                    self.refused(BadWord, looked, word, kinds)
                    self.refused(BadWord, number_of, word, kinds)
                    self.assertIsNone(looked(word, kinds + 1))


class Numbers(Case):
    """Point 1.3."""

    def test_each_word_of_a_length_has_its_place_as_number(self):
        for kinds in range(1, 7):
            for length in range(1, 5):
                for number, word in enumerate(words_in_order(length, kinds)):
                    with self.subTest(word=word, kinds=kinds):
                        self.is_whole(number_of(word, kinds), number)
                        self.assertEqual(word_of(number, length, kinds), word)

    def test_told_examples(self):
        self.is_whole(number_of("ba", 2), 2)
        self.is_whole(number_of("ba", 6), 6)
        self.is_whole(number_of("bca", 3), 15)
        self.assertEqual(word_of(15, 3, 3), "bca")

    def test_first_and_last_number_of_each_length(self):
        for kinds in range(1, 7):
            top = "abcdef"[kinds - 1]
            for length in range(1, 25):
                with self.subTest(kinds=kinds, length=length):
                    last = kinds ** length - 1
                    self.assertEqual(word_of(0, length, kinds), "a" * length)
                    self.assertEqual(word_of(last, length, kinds), top * length)
                    self.is_whole(number_of("a" * length, kinds), 0)
                    self.is_whole(number_of(top * length, kinds), last)

    def test_there_and_back_for_far_numbers(self):
        for kinds in range(2, 7):
            for length in (13, 23, 24):
                total = kinds ** length
                for number in (1, kinds, total // 2, total // 3, total // 7 * 5, total - 2):
                    with self.subTest(kinds=kinds, length=length, number=number):
                        word = word_of(number, length, kinds)
                        self.assertEqual(len(word), length)
                        self.is_whole(number_of(word, kinds), number)

    def test_numbers_below_and_beyond_are_refused(self):
        for kinds in range(1, 7):
            for length in (1, 2, 8, 23, 24):
                total = kinds ** length
                for number in (-1, -2, -total, total, total + 1, 2 * total, GREAT, -GREAT, VAST, -VAST):
                    with self.subTest(kinds=kinds, length=length):
                        self.refused(NoSuch, word_of, number, length, kinds)

    def test_wrong_lengths_are_refused_ahead_of_no_such(self):
        for kinds in range(1, 7):
            for length in WRONG_LENGTHS:
                for number in (0, -1, 1, GREAT, -GREAT, VAST):
                    with self.subTest(kinds=kinds, length=length % 10 ** 9):
                        self.refused(BadWord, word_of, number, length, kinds)


class AllWords(Case):
    """Point 1.3, all words of a length."""

    def test_all_words_ascending(self):
        for kinds in range(1, 7):
            for length in range(1, 25):
                if kinds ** length <= 4096:
                    with self.subTest(kinds=kinds, length=length):
                        told = all_words(length, kinds)
                        self.assertIs(type(told), list)
                        self.assertEqual(told, words_in_order(length, kinds))

    def test_just_4096_words(self):
        for length, kinds in ((12, 2), (6, 4)):
            told = all_words(length, kinds)
            self.assertEqual(len(told), 4096)
            self.assertEqual(told, words_in_order(length, kinds))

    def test_one_kind_has_one_word(self):
        self.assertEqual(all_words(1, 1), ["a"])
        self.assertEqual(all_words(24, 1), ["a" * 24])

    def test_more_than_4096_are_refused(self):
        for length, kinds in ((13, 2), (24, 2), (8, 3), (24, 3), (7, 4), (6, 5), (24, 5), (5, 6), (24, 6)):
            with self.subTest(length=length, kinds=kinds):
                self.refused(TooMany, all_words, length, kinds)

    def test_wrong_lengths_are_refused_ahead_of_too_many(self):
        for kinds in range(1, 7):
            for length in WRONG_LENGTHS:
                with self.subTest(kinds=kinds, length=length % 10 ** 9):
                    self.refused(BadWord, all_words, length, kinds)

    def test_a_told_list_is_the_askers_own(self):
        one = all_words(3, 2)
        two = all_words(3, 2)
        one.reverse()
        one.append("x")
        self.assertEqual(two, words_in_order(3, 2))
        two.clear()
        self.assertEqual(all_words(3, 2), words_in_order(3, 2))


def slow_windows(text, length, ring):
    count = len(text) if ring else max(0, len(text) - length + 1)
    return ["".join(text[(place + step) % len(text)] for step in range(length)) for place in range(count)]


class Windows(Case):
    """Points 0.3 and 1.4."""

    def test_told_examples(self):
        self.assertEqual(windows("ab", 3, True), ["aba", "bab"])
        self.assertEqual(windows("aabb", 2, True), ["aa", "ab", "bb", "ba"])
        self.assertEqual(windows("aabb", 2, False), ["aa", "ab", "bb"])
        self.assertEqual(windows("abc", 1, False), ["a", "b", "c"])
        self.assertEqual(windows("abc", 1, True), ["a", "b", "c"])

    def test_a_row_as_long_as_the_length_and_shorter(self):
        self.assertEqual(windows("abc", 3, False), ["abc"])
        self.assertEqual(windows("abc", 4, False), [])
        self.assertEqual(windows("abc", 5, False), [])
        self.assertEqual(windows("abc", 24, False), [])

    def test_a_ring_gone_round_more_than_once(self):
        self.assertEqual(windows("abc", 3, True), ["abc", "bca", "cab"])
        self.assertEqual(windows("abc", 4, True), ["abca", "bcab", "cabc"])
        self.assertEqual(windows("abc", 7, True), ["abcabca", "bcabcab", "cabcabc"])
        self.assertEqual(windows("f", 24, True), ["f" * 24])

    def test_a_text_without_letters_has_none(self):
        for length in (1, 2, 24):
            self.assertEqual(windows("", length, True), [])
            self.assertEqual(windows("", length, False), [])

    def test_all_lengths_letter_by_letter(self):
        for text in ("a", "ab", "abcdef", "ffedcbaaf", "abcabcabd", "abcdef" * 4, "edcba" * 9):
            for length in range(1, 25):
                for ring in (True, False):
                    with self.subTest(text=text, length=length, ring=ring):
                        told = windows(text, length, ring)
                        self.assertIs(type(told), list)
                        self.assertEqual(told, slow_windows(text, length, ring))

    def test_5000_letters(self):
        text = "abcdefacebdf" * 416 + "abcdabcd"
        self.assertEqual(len(text), 5000)
        self.assertEqual(windows(text, 24, True), slow_windows(text, 24, True))
        self.assertEqual(windows(text, 24, False), slow_windows(text, 24, False))

    def test_a_length_somewhat_beyond_is_not_refused(self):
        for length in (25, 30):
            self.assertEqual(windows("abcde" * 8, length, False), slow_windows("abcde" * 8, length, False))
            self.assertEqual(windows("abc", length, True), slow_windows("abc", length, True))

    def test_a_told_list_is_the_askers_own(self):
        for ring in (True, False):
            one = windows("abc", 1, ring)
            two = windows("abc", 1, ring)
            one.append("x")
            one[0] = "y"
            self.assertEqual(two, ["a", "b", "c"])
            self.assertEqual(windows("abc", 1, ring), ["a", "b", "c"])


class Turned(Case):
    """Point 1.5."""

    def test_by_one_and_back(self):
        self.assertEqual(turned("abcd", 1), "bcda")
        self.assertEqual(turned("abcd", -1), "dabc")

    def test_by_nought_it_stays(self):
        for text in ("", "a", "abcd", "fab" * 8):
            self.assertEqual(turned(text, 0), text)

    def test_step_by_step(self):
        for text in ("a", "ab", "abcde", "aabbc", "abcdef" * 4):
            there = text
            back = text
            for by in range(60):
                with self.subTest(text=text, by=by):
                    self.assertEqual(turned(text, by), there)
                    self.assertEqual(turned(text, -by), back)
                there = there[1:] + there[0]
                back = back[-1] + back[:-1]

    def test_far_beyond_the_length(self):
        self.assertEqual(GREAT % 7, 5)
        self.assertEqual(turned("abcdefa", GREAT), "faabcde")
        self.assertEqual(turned("abcdefa", -GREAT), "cdefaab")
        self.assertEqual(turned("abc", 3 * GREAT + 1), "bca")
        self.assertEqual(turned("abc", -3 * GREAT - 1), "cab")
        self.assertEqual(turned("abc", 3 * VAST), "abc")

    def test_a_text_without_letters_stays(self):
        for by in (0, 1, -1, 7, GREAT, -GREAT):
            self.assertEqual(turned("", by), "")


class Mirrored(Case):
    """Point 1.5."""

    def test_told_from_its_end(self):
        for text, awaited in (("", ""), ("a", "a"), ("ab", "ba"), ("abcdef", "fedcba"), ("aab", "baa")):
            self.assertEqual(mirrored(text), awaited)

    def test_twice_mirrored_it_is_the_text(self):
        for word in words_in_order(4, 3):
            self.assertEqual(mirrored(word), word[::-1])
            self.assertEqual(mirrored(mirrored(word)), word)

    def test_texts_are_told(self):
        for told in (letters(2), word_of(1, 2, 2), turned("ab", 1), mirrored("ab")):
            self.assertIs(type(told), str)


if __name__ == "__main__":
    unittest.main()
