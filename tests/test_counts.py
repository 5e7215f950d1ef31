"""Points 8.1 to 8.4, and 0.2 to 0.6 as far as they touch these."""

import bisect
import itertools
import random
import unittest

from onceround.counts import least_by, leasts_up_to, prime_by, primes_up_to, up_to
from onceround.errors import BadKinds, BadWord, NoSuch, OnceError
from onceround.primes import last_least, leasts, next_least, primes_of
from onceround.turns import is_least, is_prime, least_turn

GREAT = 10 ** 59
# A number of more figures than Python writes as a text without being told so.
VAST = 10 ** 6000
WRONG_KINDS = (0, 7, 8, 26, -1, -2, -6, -7, GREAT, -GREAT, VAST, -VAST)
WRONG_LENGTHS = (0, 25, 26, -1, -24, GREAT, -GREAT, VAST, -VAST)
STRANGE_SIGNS = ("g", "z", "A", "F", "`", " ", "\n", "\0", "0", "-", "\u00e4", "\u0430", "\ud800", "\U0001f600")
# Kinds, and the longest words of them that are gone through one by one.
GONE_THROUGH = ((1, 24), (2, 10), (3, 6), (4, 5), (5, 4), (6, 4))
ALL_SIZES = [(length, kinds) for kinds, longest in GONE_THROUGH for length in range(1, longest + 1)]
COUNTS = (up_to, leasts_up_to, primes_up_to)


def words_in_order(length, kinds):
    return ["".join(signs) for signs in itertools.product("abcdef"[:kinds], repeat=length)]


def turns(word):
    return [word[by:] + word[:by] for by in range(len(word))]


def dividing(length):
    return [size for size in range(1, length + 1) if length % size == 0]


def prime_total(length, kinds):
    """How many primes of a length there are, as the words whose root is shorter are taken away."""
    shorter = sum(size * prime_total(size, kinds) for size in dividing(length)[:-1])
    return (kinds ** length - shorter) // length


def least_total(length, kinds):
    return sum(prime_total(size, kinds) for size in dividing(length))


def chance_words(chance, length, kinds, many):
    """Words of all sorts: any ones, least ones, those that tell a part again and again, and those next to them."""
    letters = "abcdef"[:kinds]
    found = []
    for _ in range(many):
        size = chance.choice(dividing(length))
        part = "".join(chance.choice(letters) for _ in range(size))
        word = part * (length // size)
        found += [word, least_turn(word), word[:-1] + chance.choice(letters)]
        found.append("".join(chance.choice(letters) for _ in range(length)))
    return found


def some_numbers(chance, total):
    return {0, 1, 2, total // 2, total - 2, total - 1, chance.randrange(total), chance.randrange(total)}


def refused_texts(kinds):
    yield ""
    yield "a" * 25
    yield "a" * 26
    yield "a" * 5000
    for sign in STRANGE_SIGNS + tuple("abcdef"[kinds:]):
        yield sign
        yield sign * 3
        yield sign + "aa"
        yield "aa" + sign
        yield "a" * 23 + sign


class Case(unittest.TestCase):
    def refused(self, refusal, deed, *handed):
        with self.assertRaises(OnceError) as taken:
            deed(*handed)
        self.assertIs(type(taken.exception), refusal)
        self.assertEqual(refusal.__bases__, (OnceError,))

    def is_whole(self, found, expected):
        self.assertIs(type(found), int)
        self.assertEqual(found, expected)

    def is_text(self, found, expected):
        self.assertIs(type(found), str)
        self.assertEqual(found, expected)


class Small(Case):
    """Points 8.1 to 8.3, all words gone through."""

    def test_examples(self):
        # The least turns of the words of two letters a, b are aa, ab, ab, bb.
        for word, words, least, primes in (("aa", 1, 1, 0), ("ab", 3, 2, 1), ("ba", 3, 2, 1), ("bb", 4, 3, 1)):
            self.is_whole(up_to(word, 2), words)
            self.is_whole(leasts_up_to(word, 2), least)
            self.is_whole(primes_up_to(word, 2), primes)
        self.is_whole(up_to("abab", 2), 11)
        self.is_whole(leasts_up_to("abab", 2), 4)
        self.is_whole(primes_up_to("abab", 2), 2)
        self.is_whole(up_to("abaa", 2), 9)
        self.is_whole(leasts_up_to("abaa", 2), 3)
        self.is_whole(primes_up_to("abaa", 2), 2)

    def test_one_letter(self):
        for kinds in range(1, 7):
            for number, letter in enumerate("abcdef"[:kinds]):
                for deed in COUNTS:
                    self.is_whole(deed(letter, kinds), number + 1)

    def test_one_kind(self):
        for length in range(1, 25):
            self.is_whole(up_to("a" * length, 1), 1)
            self.is_whole(leasts_up_to("a" * length, 1), 1)
            self.is_whole(primes_up_to("a" * length, 1), 1 if length == 1 else 0)

    def test_up_to_against_all_words(self):
        for length, kinds in ALL_SIZES:
            words = words_in_order(length, kinds)
            told = sorted(min(turns(word)) for word in words)
            for word in words:
                self.is_whole(up_to(word, kinds), bisect.bisect_right(told, word))

    def test_leasts_and_primes_against_all_words(self):
        for length, kinds in ALL_SIZES:
            least = primes = 0
            for word in words_in_order(length, kinds):
                least += word == min(turns(word))
                primes += all(word < turn for turn in turns(word)[1:])
                self.is_whole(leasts_up_to(word, kinds), least)
                self.is_whole(primes_up_to(word, kinds), primes)

    def test_more_kinds_than_the_word_has(self):
        # How many kinds there are matters: greater letters stand in words with a lesser least turn too.
        self.is_whole(up_to("ab", 6), 3)
        self.is_whole(up_to("af", 6), 11)
        self.is_whole(up_to("ba", 6), 11)
        self.is_whole(up_to("ab", 3), 3)
        self.is_whole(up_to("ac", 3), 5)
        self.is_whole(up_to("bb", 3), 6)
        self.is_whole(leasts_up_to("bb", 3), 4)
        self.is_whole(primes_up_to("bb", 3), 2)


class Formula(Case):
    """Point 8.2, written out as the document tells it."""

    def above(self, word, kinds):
        size = len(word)
        greater = [len([letter for letter in "abcdef"[:kinds] if letter > sign]) for sign in word]
        r = [1]
        for t in range(1, size):
            r.append(sum(greater[j] * r[t - 1 - j] for j in range(t)))
        return sum((j + 1) * greater[j] * r[size - 1 - j] for j in range(size))

    def test_against_all_words(self):
        for length, kinds in ALL_SIZES:
            told = sorted(min(turns(word)) for word in words_in_order(length, kinds))
            for word in set(told):
                greater = len(told) - bisect.bisect_right(told, word)
                self.assertEqual(self.above(word, kinds), greater)
                self.is_whole(up_to(word, kinds), len(told) - greater)

    def test_long_least_words(self):
        chance = random.Random(821)
        for kinds in range(1, 7):
            for length in (11, 12, 20, 24):
                for word in chance_words(chance, length, kinds, 5):
                    least = least_turn(word)
                    self.is_whole(up_to(least, kinds), kinds ** length - self.above(least, kinds))


class Long(Case):
    """Points 8.1 to 8.3 of words of up to 24 letters."""

    def test_first_and_last_words(self):
        for kinds in range(1, 7):
            for length in range(1, 25):
                first, last = "a" * length, "abcdef"[kinds - 1] * length
                self.is_whole(up_to(first, kinds), 1)
                self.is_whole(leasts_up_to(first, kinds), 1)
                self.is_whole(primes_up_to(first, kinds), 1 if length == 1 else 0)
                self.is_whole(up_to(last, kinds), kinds ** length)
                self.is_whole(leasts_up_to(last, kinds), least_total(length, kinds))
                self.is_whole(primes_up_to(last, kinds), prime_total(length, kinds))

    def test_told_in_full(self):
        self.is_whole(up_to("f" * 24, 6), 4738381338321616896)
        self.is_whole(leasts_up_to("b" * 24, 2), 699252)
        self.is_whole(primes_up_to("b" * 24, 2), 698870)
        self.is_whole(primes_up_to("f" * 24, 6), 197432555672631510)

    def test_the_first_least_words(self):
        for kinds in range(2, 7):
            for length in range(2, 25):
                self.is_whole(up_to("a" * (length - 1) + "b", kinds), 1 + length)
                # All turns of aa..ab, aa..ac and so on have one letter that is no a.
                word = "a" * (length - 1) + "abcdef"[kinds - 1]
                self.is_whole(up_to(word, kinds), 1 + length * (kinds - 1))
                self.is_whole(leasts_up_to(word, kinds), kinds)
                self.is_whole(primes_up_to(word, kinds), kinds - 1)

    def test_words_that_begin_with_the_second_letter(self):
        # All words with an a have a least turn below it, all others none.
        for kinds in range(2, 7):
            for length in range(2, 25):
                top = "abcdef"[kinds - 1]
                self.is_whole(up_to("a" + top * (length - 1), kinds), kinds ** length - (kinds - 1) ** length)
                self.is_whole(up_to("b" + "a" * (length - 1), kinds), kinds ** length - (kinds - 1) ** length)
                self.is_whole(up_to("b" * length, kinds), kinds ** length - (kinds - 1) ** length + 1)

    def test_the_last_least_words(self):
        for kinds in range(2, 7):
            for length in range(2, 25):
                top, lesser = "abcdef"[kinds - 1], "abcdef"[kinds - 2]
                self.is_whole(up_to(lesser + top * (length - 1), kinds), kinds ** length - 1)
                self.is_whole(up_to(top * (length - 1) + lesser, kinds), kinds ** length - 1)

    def test_a_next_least_word_adds_its_turns(self):
        chance = random.Random(811)
        for kinds in range(2, 7):
            for length in (7, 12, 16, 23, 24):
                for word in chance_words(chance, length, kinds, 3):
                    following = next_least(word, kinds)
                    if following is not None:
                        many = len(set(turns(following)))
                        self.is_whole(up_to(following, kinds), up_to(word, kinds) + many)
                        self.is_whole(leasts_up_to(following, kinds), leasts_up_to(word, kinds) + 1)
                        more = 1 if many == length else 0
                        self.is_whole(primes_up_to(following, kinds), primes_up_to(word, kinds) + more)
                    last = last_least(word, kinds)
                    for deed in COUNTS:
                        self.is_whole(deed(word, kinds), deed(last, kinds))

    def test_the_least_words_one_behind_the_other(self):
        # From the first one on, and again toward the last one.
        for kinds, length in ((2, 24), (6, 24), (3, 12), (4, 24), (5, 18)):
            top = "abcdef"[kinds - 1]
            for word in ("a" * length, "ab" * (length // 2), "abbabb" * (length // 6), "a" + top * (length - 1),
                         top * (length - 6) + "a" + top * 5):
                words, least, primes = up_to(word, kinds), leasts_up_to(word, kinds), primes_up_to(word, kinds)
                for _ in range(25):
                    word = next_least(word, kinds)
                    if word is None:
                        break
                    words += len(set(turns(word)))
                    least += 1
                    primes += len(set(turns(word))) == length
                    self.is_whole(up_to(word, kinds), words)
                    self.is_whole(leasts_up_to(word, kinds), least)
                    self.is_whole(primes_up_to(word, kinds), primes)


class Numbered(Case):
    """Point 8.4."""

    def test_examples(self):
        self.is_text(least_by(3, 2, 0), "aaa")
        self.is_text(least_by(3, 2, 3), "bbb")
        self.is_text(prime_by(3, 2, 0), "aab")
        self.is_text(prime_by(3, 2, 1), "abb")
        self.is_text(least_by(1, 1, 0), "a")
        self.is_text(prime_by(1, 1, 0), "a")
        self.is_text(least_by(24, 1, 0), "a" * 24)
        self.is_text(least_by(24, 6, 1), "a" * 23 + "b")
        self.is_text(prime_by(24, 6, 0), "a" * 23 + "b")

    def test_all_numbers_of_small_lengths(self):
        for length, kinds in ALL_SIZES:
            for deed, words in ((least_by, leasts(length, kinds)), (prime_by, primes_of(length, kinds))):
                for number, word in enumerate(words):
                    self.is_text(deed(length, kinds, number), word)
                for number in (-1, -2, -len(words), len(words), len(words) + 1, GREAT, -GREAT, VAST, -VAST):
                    if number < 0 or number >= len(words):
                        self.refused(NoSuch, deed, length, kinds, number)

    def test_one_kind(self):
        for length in range(1, 25):
            self.is_text(least_by(length, 1, 0), "a" * length)
            self.refused(NoSuch, least_by, length, 1, 1)
            if length > 1:
                self.refused(NoSuch, prime_by, length, 1, 0)
            self.refused(NoSuch, prime_by, length, 1, 1)
            self.refused(NoSuch, prime_by, length, 1, -1)

    def test_long_words_lead_back(self):
        chance = random.Random(841)
        for kinds in range(2, 7):
            for length in (11, 18, 23, 24):
                total = least_total(length, kinds)
                for number in some_numbers(chance, total):
                    word = least_by(length, kinds, number)
                    self.assertEqual(len(word), length)
                    self.assertTrue(is_least(word))
                    self.is_whole(leasts_up_to(word, kinds), number + 1)
                total = prime_total(length, kinds)
                for number in some_numbers(chance, total):
                    word = prime_by(length, kinds, number)
                    self.assertEqual(len(word), length)
                    self.assertTrue(is_prime(word))
                    self.is_whole(primes_up_to(word, kinds), number + 1)

    def test_words_lead_to_their_numbers_and_back(self):
        chance = random.Random(842)
        for kinds in range(2, 7):
            for length in (13, 24):
                for word in chance_words(chance, length, kinds, 2):
                    least = least_turn(word)
                    self.is_text(least_by(length, kinds, leasts_up_to(least, kinds) - 1), least)
                    if is_prime(least):
                        self.is_text(prime_by(length, kinds, primes_up_to(least, kinds) - 1), least)

    def test_last_numbers_of_all_lengths(self):
        for kinds in range(1, 7):
            for length in range(1, 25):
                top = "abcdef"[kinds - 1]
                many = least_total(length, kinds)
                self.is_text(least_by(length, kinds, many - 1), top * length)
                self.refused(NoSuch, least_by, length, kinds, many)
                self.refused(NoSuch, least_by, length, kinds, -1)
                many = prime_total(length, kinds)
                self.refused(NoSuch, prime_by, length, kinds, many)
                self.refused(NoSuch, prime_by, length, kinds, -1)
                if length > 1 and kinds > 1:
                    lesser = "abcdef"[kinds - 2]
                    self.is_text(prime_by(length, kinds, many - 1), lesser + top * (length - 1))


class Refused(Case):
    def test_words(self):
        for kinds in range(1, 7):
            for text in refused_texts(kinds):
                for deed in COUNTS:
                    self.refused(BadWord, deed, text, kinds)

    def test_kinds_ahead_of_words(self):
        for kinds in WRONG_KINDS:
            for text in ("a", "ab", "", "z", "g", "a" * 24, "a" * 25):
                for deed in COUNTS:
                    self.refused(BadKinds, deed, text, kinds)

    def test_numbered(self):
        for deed in (least_by, prime_by):
            for number in (0, 1, -1, GREAT, -GREAT, VAST, -VAST):
                for kinds in WRONG_KINDS:
                    for length in (1, 2, 24) + WRONG_LENGTHS:
                        self.refused(BadKinds, deed, length, kinds, number)
                for length in WRONG_LENGTHS:
                    for kinds in range(1, 7):
                        self.refused(BadWord, deed, length, kinds, number)

    def test_numbers(self):
        for deed in (least_by, prime_by):
            for kinds in range(1, 7):
                for length in (1, 2, 12, 24):
                    for number in (-1, -2, kinds ** length, GREAT, -GREAT, VAST, -VAST):
                        self.refused(NoSuch, deed, length, kinds, number)


if __name__ == "__main__":
    unittest.main()
