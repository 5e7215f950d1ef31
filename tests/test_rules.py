"""Points 7.1, 7.2, 7.4, 7.5 and 7.7 as far as rules go, and 0.2 to 0.6 as far as they touch these."""

import itertools
import random
import unittest

from onceround.errors import BadDeed, BadKinds, BadRule, BadWord, NotOne, OnceError, TooMany
from onceround.numbered import ring_by, ring_count
from onceround.rules import Rule, exchanged, is_fair, made_of, next_word, partners, turning
from onceround.webs import Web

GREAT = 10 ** 59
# A number of more figures than Python writes as a text without being told so.
VAST = 10 ** 6000
WRONG_KINDS = (0, 7, 8, 26, -1, -2, -6, -7, GREAT, -GREAT, VAST, -VAST)
WRONG_LENGTHS = (0, 9, 10, 24, 25, -1, -8, GREAT, -GREAT, VAST, -VAST)
STRANGE_SIGNS = ("g", "z", "A", "F", "`", " ", "\n", "\0", "0", "-", "\u00e4", "\u0430", "\ud800", "\U0001f600")
# Lengths and kinds of which there are at most 64 words, and those of which there are more.
SIZES = [(length, kinds) for length in range(1, 9) for kinds in range(1, 7) if kinds ** length <= 64]
TOO_GREAT = [(length, kinds) for length in range(1, 9) for kinds in range(1, 7) if kinds ** length > 64]


def texts_of(size, kinds):
    return ["".join(signs) for signs in itertools.product("abcdef"[:kinds], repeat=size)]


def all_tolds(length, kinds):
    return texts_of(kinds ** length, kinds)


def ring_windows(text, length):
    return ["".join(text[(place + step) % len(text)] for step in range(length)) for place in range(len(text))]


def chance_told(chance, length, kinds):
    return "".join(chance.choice("abcdef"[:kinds]) for _ in range(kinds ** length))


def fair_told(chance, length, kinds):
    """What some fair rule tells: of all partners, each one tells another letter."""
    told = {}
    for rest in texts_of(length - 1, kinds):
        letters = list("abcdef"[:kinds])
        chance.shuffle(letters)
        for first, letter in zip("abcdef", letters):
            told[first + rest] = letter
    return "".join(told[word] for word in texts_of(length, kinds))


def behind_of(length, kinds, told):
    """From each word to the word behind it."""
    return {word: word[1:] + letter for word, letter in zip(texts_of(length, kinds), told)}


def sample_tolds(chance, length, kinds):
    """All that rules of a small size tell, or some of a greater one, fair and other ones."""
    if kinds ** (kinds ** length) <= 300:
        return all_tolds(length, kinds)
    some = [fair_told(chance, length, kinds) for _ in range(4)]
    return some + [chance_told(chance, length, kinds) for _ in range(4)]


class Case(unittest.TestCase):
    def refused(self, refusal, deed, *handed):
        with self.assertRaises(OnceError) as taken:
            deed(*handed)
        self.assertIs(type(taken.exception), refusal)
        self.assertEqual(refusal.__bases__, (OnceError,))

    def is_text(self, found, expected):
        self.assertIs(type(found), str)
        self.assertEqual(found, expected)

    def is_rule(self, found, length, kinds, told):
        self.assertIs(type(found), Rule)
        self.assertIs(type(found.length), int)
        self.assertIs(type(found.kinds), int)
        self.is_text(found.told, told)
        self.assertEqual((found.length, found.kinds), (length, kinds))

    def refused_words(self, length, kinds):
        """Texts that are no words of a length and kinds."""
        word = "a" * length
        yield ""
        yield word + "a"
        yield word * 2
        yield word[1:]
        yield "a" * 24
        yield "a" * 25
        yield "a" * 2000
        if kinds < 6:
            yield "abcdef"[kinds] + word[1:]
            yield word[:-1] + "abcdef"[kinds]
            yield "abcdef"[kinds] * length
        for sign in STRANGE_SIGNS:
            yield sign
            yield sign * length
            yield sign + word[1:]
            yield word[:-1] + sign
            yield word + sign


class Making(Case):
    """Point 7.1: Rule."""

    def test_values(self):
        self.is_rule(Rule(1, 1, "a"), 1, 1, "a")
        self.is_rule(Rule(8, 1, "a"), 8, 1, "a")
        self.is_rule(Rule(2, 2, "abba"), 2, 2, "abba")
        self.is_rule(Rule(1, 6, "ffffff"), 1, 6, "ffffff")
        self.is_rule(Rule(6, 2, "ab" * 32), 6, 2, "ab" * 32)
        self.is_rule(Rule(3, 4, "abcd" * 16), 3, 4, "abcd" * 16)
        self.is_rule(Rule(2, 6, "abcdef" * 6), 2, 6, "abcdef" * 6)

    def test_all_sizes(self):
        chance = random.Random(711)
        self.assertEqual(len(SIZES), 24)
        for length, kinds in SIZES:
            for told in sample_tolds(chance, length, kinds):
                self.is_rule(Rule(length, kinds, told), length, kinds, told)

    def test_kinds(self):
        for kinds in WRONG_KINDS:
            for length in (1, 2, 8) + WRONG_LENGTHS:
                for told in ("", "a", "ab", "z", "abba"):
                    self.refused(BadKinds, Rule, length, kinds, told)

    def test_lengths(self):
        for length in WRONG_LENGTHS:
            for kinds in range(1, 7):
                for told in ("", "a", "ab", "z", "abba"):
                    self.refused(BadWord, Rule, length, kinds, told)

    def test_too_many_words(self):
        for length, kinds in TOO_GREAT:
            for told in ("", "a", "z", "a" * 64, "a" * 65, "a" * kinds ** length if kinds ** length < 10000 else "b"):
                self.refused(TooMany, Rule, length, kinds, told)

    def test_just_64_words_and_more(self):
        for length, kinds in ((6, 2), (3, 4)):
            self.is_rule(Rule(length, kinds, "a" * 64), length, kinds, "a" * 64)
        self.refused(TooMany, Rule, 7, 2, "a" * 128)
        self.refused(TooMany, Rule, 4, 3, "a" * 81)
        self.refused(TooMany, Rule, 4, 4, "a" * 256)
        self.refused(TooMany, Rule, 3, 5, "a" * 125)
        self.refused(TooMany, Rule, 3, 6, "a" * 216)

    def test_a_sign_too_many_or_too_few(self):
        for length, kinds in SIZES:
            total = kinds ** length
            for size in {0, 1, total - 1, total + 1, total * 2, 65, 2000} - {total}:
                self.refused(BadRule, Rule, length, kinds, "a" * size)

    def test_signs_that_are_none_of_the_letters(self):
        for length, kinds in SIZES:
            total = kinds ** length
            for sign in STRANGE_SIGNS + tuple("abcdef"[kinds:]):
                for place in {0, total // 2, total - 1}:
                    self.refused(BadRule, Rule, length, kinds, "a" * place + sign + "a" * (total - place - 1))
                self.refused(BadRule, Rule, length, kinds, sign * total)

    def test_two_rules_stand_by_themselves(self):
        one = Rule(2, 2, "abba")
        two = Rule(1, 3, "abc")
        self.is_rule(one, 2, 2, "abba")
        self.is_rule(two, 1, 3, "abc")


class Behind(Case):
    """Point 7.1: next_word."""

    def test_examples(self):
        rule = Rule(2, 2, "abba")
        for word, behind in (("aa", "aa"), ("ab", "bb"), ("ba", "ab"), ("bb", "ba")):
            self.is_text(next_word(rule, word), behind)
        rule = Rule(1, 6, "bcdefa")
        for word, behind in zip("abcdef", "bcdefa"):
            self.is_text(next_word(rule, word), behind)
        self.is_text(next_word(Rule(8, 1, "a"), "aaaaaaaa"), "aaaaaaaa")
        self.is_text(next_word(Rule(1, 1, "a"), "a"), "a")

    def test_all_words(self):
        chance = random.Random(712)
        for length, kinds in SIZES:
            for told in sample_tolds(chance, length, kinds):
                rule = Rule(length, kinds, told)
                for word, behind in behind_of(length, kinds, told).items():
                    self.is_text(next_word(rule, word), behind)

    def test_texts_that_are_no_words(self):
        for length, kinds in SIZES:
            rule = Rule(length, kinds, "a" * kinds ** length)
            for text in self.refused_words(length, kinds):
                self.refused(BadWord, next_word, rule, text)


class Partners(Case):
    """Point 7.2: partners."""

    def test_examples(self):
        self.assertEqual(partners(Rule(2, 2, "abba"), "ab"), ["bb"])
        self.assertEqual(partners(Rule(2, 2, "abba"), "bb"), ["ab"])
        self.assertEqual(partners(Rule(2, 3, "a" * 9), "bc"), ["ac", "cc"])
        self.assertEqual(partners(Rule(1, 6, "aaaaaa"), "d"), ["a", "b", "c", "e", "f"])
        self.assertEqual(partners(Rule(1, 1, "a"), "a"), [])
        self.assertEqual(partners(Rule(8, 1, "a"), "aaaaaaaa"), [])

    def test_all_words(self):
        for length, kinds in SIZES:
            rule = Rule(length, kinds, "a" * kinds ** length)
            words = texts_of(length, kinds)
            for word in words:
                found = partners(rule, word)
                self.assertIs(type(found), list)
                self.assertEqual(found, [two for two in words if two[0] != word[0] and two[1:] == word[1:]])
                self.assertEqual(len(found), kinds - 1)

    def test_texts_that_are_no_words(self):
        for length, kinds in SIZES:
            rule = Rule(length, kinds, "a" * kinds ** length)
            for text in self.refused_words(length, kinds):
                self.refused(BadWord, partners, rule, text)

    def test_a_told_list_is_the_askers_own(self):
        rule = Rule(2, 3, "abcabcabc")
        found = partners(rule, "ab")
        found.append("zz")
        found[0] = "y"
        self.assertEqual(partners(rule, "ab"), ["bb", "cb"])
        self.is_rule(rule, 2, 3, "abcabcabc")


class Fair(Case):
    """Point 7.2: is_fair."""

    def test_examples(self):
        self.assertIs(is_fair(Rule(1, 1, "a")), True)
        self.assertIs(is_fair(Rule(1, 2, "ab")), True)
        self.assertIs(is_fair(Rule(1, 2, "ba")), True)
        self.assertIs(is_fair(Rule(1, 2, "aa")), False)
        self.assertIs(is_fair(Rule(2, 2, "aabb")), True)
        # Words that stand side by side are told unlike letters, partners are not.
        self.assertIs(is_fair(Rule(2, 2, "abab")), False)
        self.assertIs(is_fair(Rule(2, 2, "abba")), True)
        self.assertIs(is_fair(Rule(1, 6, "fedcba")), True)
        self.assertIs(is_fair(Rule(1, 6, "fedcbb")), False)

    def slow_fair(self, length, kinds, told):
        behind = behind_of(length, kinds, told)
        by_words = all(list(behind.values()).count(word) == 1 for word in behind)
        by_partners = all(
            behind[one][-1] != behind[two][-1]
            for one in behind for two in behind if one[0] != two[0] and one[1:] == two[1:]
        )
        self.assertEqual(by_words, by_partners)
        return by_words

    def test_all_rules_of_small_sizes(self):
        counts = {}
        for length, kinds in ((1, 1), (2, 1), (8, 1), (1, 2), (2, 2), (3, 2), (1, 3), (1, 4)):
            for told in all_tolds(length, kinds):
                fair = is_fair(Rule(length, kinds, told))
                self.assertIs(fair, self.slow_fair(length, kinds, told))
                counts[length, kinds] = counts.get((length, kinds), 0) + fair
        expected = {(1, 1): 1, (2, 1): 1, (8, 1): 1, (1, 2): 2, (2, 2): 4, (3, 2): 16, (1, 3): 6, (1, 4): 24}
        self.assertEqual(counts, expected)

    def test_greater_sizes(self):
        chance = random.Random(721)
        for length, kinds in SIZES:
            for told in sample_tolds(chance, length, kinds):
                self.assertIs(is_fair(Rule(length, kinds, told)), self.slow_fair(length, kinds, told))

    def test_one_letter_changed(self):
        chance = random.Random(722)
        for length, kinds in SIZES:
            told = fair_told(chance, length, kinds)
            self.assertIs(is_fair(Rule(length, kinds, told)), True)
            for place in range(len(told)):
                for letter in "abcdef"[:kinds]:
                    changed = told[:place] + letter + told[place + 1:]
                    self.assertIs(is_fair(Rule(length, kinds, changed)), changed == told)


class Turning(Case):
    """Point 7.4: turning."""

    def test_examples(self):
        self.is_rule(turning(1, 1), 1, 1, "a")
        self.is_rule(turning(8, 1), 8, 1, "a")
        self.is_rule(turning(1, 6), 1, 6, "abcdef")
        self.is_rule(turning(2, 2), 2, 2, "aabb")
        self.is_rule(turning(2, 3), 2, 3, "aaabbbccc")
        self.is_rule(turning(6, 2), 6, 2, "a" * 32 + "b" * 32)

    def test_all_sizes(self):
        for length, kinds in SIZES:
            rule = turning(length, kinds)
            words = texts_of(length, kinds)
            self.is_rule(rule, length, kinds, "".join(word[0] for word in words))
            self.assertIs(is_fair(rule), True)
            for word in words:
                self.is_text(next_word(rule, word), word[1:] + word[0])

    def test_refusals(self):
        for kinds in WRONG_KINDS:
            for length in (1, 2, 8) + WRONG_LENGTHS:
                self.refused(BadKinds, turning, length, kinds)
        for length in WRONG_LENGTHS:
            for kinds in range(1, 7):
                self.refused(BadWord, turning, length, kinds)
        for length, kinds in TOO_GREAT:
            self.refused(TooMany, turning, length, kinds)

    def test_each_one_is_the_askers_own(self):
        one = turning(2, 2)
        one.told = "abab"
        self.is_rule(turning(2, 2), 2, 2, "aabb")


class Exchanged(Case):
    """Point 7.5: exchanged."""

    def test_examples(self):
        self.is_rule(exchanged(Rule(2, 2, "aabb"), "aa", "ba"), 2, 2, "baab")
        self.is_rule(exchanged(Rule(2, 2, "aabb"), "ba", "aa"), 2, 2, "baab")
        self.is_rule(exchanged(Rule(2, 2, "aabb"), "ab", "bb"), 2, 2, "abba")
        self.is_rule(exchanged(Rule(1, 4, "abcd"), "b", "d"), 1, 4, "adcb")
        # Of a rule that is not fair too, and of partners that tell the same letter.
        self.is_rule(exchanged(Rule(2, 2, "abab"), "aa", "ba"), 2, 2, "abab")
        self.is_rule(exchanged(Rule(1, 3, "aab"), "b", "c"), 1, 3, "aba")

    def test_all_pairs_of_words(self):
        chance = random.Random(751)
        for length, kinds in SIZES:
            words = texts_of(length, kinds)
            for told in (fair_told(chance, length, kinds), chance_told(chance, length, kinds)):
                rule = Rule(length, kinds, told)
                for one, two in itertools.product(words, repeat=2):
                    if one[0] != two[0] and one[1:] == two[1:]:
                        letters = dict(zip(words, told))
                        letters[one], letters[two] = letters[two], letters[one]
                        found = exchanged(rule, one, two)
                        self.is_rule(found, length, kinds, "".join(letters[word] for word in words))
                    else:
                        self.refused(BadDeed, exchanged, rule, one, two)
                self.is_rule(rule, length, kinds, told)

    def test_a_fair_rule_stays_fair_and_exchanged_again_comes_back(self):
        chance = random.Random(752)
        for length, kinds in SIZES:
            told = fair_told(chance, length, kinds)
            rule = Rule(length, kinds, told)
            for one in texts_of(length, kinds):
                for two in partners(rule, one):
                    there = exchanged(rule, one, two)
                    self.assertIs(is_fair(there), True)
                    self.assertNotEqual(there.told, told)
                    self.is_rule(exchanged(there, one, two), length, kinds, told)
                    self.is_rule(exchanged(there, two, one), length, kinds, told)

    def test_texts_that_are_no_words(self):
        for length, kinds in SIZES:
            rule = Rule(length, kinds, "a" * kinds ** length)
            word = "a" * length
            for text in self.refused_words(length, kinds):
                self.refused(BadWord, exchanged, rule, text, word)
                self.refused(BadWord, exchanged, rule, word, text)
                self.refused(BadWord, exchanged, rule, text, text)
                self.refused(BadWord, exchanged, rule, text, "")

    def test_a_word_is_no_partner_of_itself(self):
        self.refused(BadDeed, exchanged, Rule(1, 1, "a"), "a", "a")
        self.refused(BadDeed, exchanged, Rule(8, 1, "a"), "a" * 8, "a" * 8)
        self.refused(BadDeed, exchanged, Rule(2, 2, "aabb"), "ab", "ab")
        self.refused(BadDeed, exchanged, Rule(2, 2, "aabb"), "aa", "bb")
        self.refused(BadDeed, exchanged, Rule(2, 2, "aabb"), "aa", "ab")

    def test_the_rule_that_is_handed_in_stays(self):
        rule = Rule(2, 2, "aabb")
        found = exchanged(rule, "aa", "ba")
        self.is_rule(rule, 2, 2, "aabb")
        found.told = "zzzz"
        self.is_rule(rule, 2, 2, "aabb")
        self.is_rule(exchanged(rule, "aa", "ba"), 2, 2, "baab")


class Made(Case):
    """Point 7.7: made_of."""

    def slow_told(self, ring, length, kinds):
        letters = {}
        for place, word in enumerate(ring_windows(ring, length)):
            letters[word] = ring[(place + length) % len(ring)]
        return "".join(letters[word] for word in texts_of(length, kinds))

    def test_examples(self):
        self.is_rule(made_of("aabb", 2, 2), 2, 2, "bbaa")
        self.is_rule(made_of("abba", 2, 2), 2, 2, "bbaa")
        self.is_rule(made_of("a", 1, 1), 1, 1, "a")
        self.is_rule(made_of("a", 8, 1), 8, 1, "a")
        self.is_rule(made_of("ab", 1, 2), 1, 2, "ba")
        self.is_rule(made_of("acb", 1, 3), 1, 3, "cab")
        self.is_rule(made_of("fedcba", 1, 6), 1, 6, "fabcde")
        self.is_rule(made_of("aaababbb", 3, 2), 3, 2, "babbabaa")

    def test_all_texts_of_small_sizes(self):
        for length, kinds in ((1, 1), (3, 1), (1, 2), (2, 2), (3, 2), (1, 3), (2, 3), (1, 4)):
            words = texts_of(length, kinds)
            found = 0
            for ring in texts_of(len(words), kinds):
                if sorted(ring_windows(ring, length)) == words:
                    found += 1
                    rule = made_of(ring, length, kinds)
                    self.is_rule(rule, length, kinds, self.slow_told(ring, length, kinds))
                    self.assertIs(is_fair(rule), True)
                else:
                    self.refused(NotOne, made_of, ring, length, kinds)
            # Each ring has as many turns as letters.
            self.assertEqual(found, ring_count(Web(words)) * len(words))

    def test_great_rings(self):
        chance = random.Random(771)
        for length, kinds in SIZES:
            web = Web(texts_of(length, kinds))
            for number in {0, ring_count(web) - 1, chance.randrange(ring_count(web))}:
                ring = ring_by(web, number)
                told = self.slow_told(ring, length, kinds)
                for by in {0, 1, len(ring) - 1, chance.randrange(len(ring))}:
                    self.is_rule(made_of(ring[by:] + ring[:by], length, kinds), length, kinds, told)

    def test_the_words_behind_are_those_of_the_ring(self):
        chance = random.Random(772)
        for length, kinds in SIZES:
            web = Web(texts_of(length, kinds))
            ring = ring_by(web, chance.randrange(ring_count(web)))
            rule = made_of(ring, length, kinds)
            words = ring_windows(ring, length)
            for word, behind in zip(words, words[1:] + words[:1]):
                self.is_text(next_word(rule, word), behind)

    def test_texts_that_are_none(self):
        for length, kinds in SIZES:
            web = Web(texts_of(length, kinds))
            ring = ring_by(web, 0)
            letter = "abcdef"[kinds] if kinds < 6 else "g"
            for text in ("", ring + ring, ring + "a", "a" + ring, ring[1:], ring[:-1], ring * 20, letter,
                         letter * len(ring), ring[:-1] + letter, letter + ring[1:], ring + letter, ring.upper(),
                         "zz", "a" * 1000):
                if text != ring:
                    self.refused(NotOne, made_of, text, length, kinds)
            for sign in STRANGE_SIGNS:
                self.refused(NotOne, made_of, sign * len(ring), length, kinds)
                self.refused(NotOne, made_of, ring[:-1] + sign, length, kinds)
                self.refused(NotOne, made_of, ring + sign, length, kinds)

    def test_rings_of_other_lengths_and_kinds(self):
        self.refused(NotOne, made_of, "aabb", 1, 2)
        self.refused(NotOne, made_of, "aabb", 3, 2)
        self.refused(NotOne, made_of, "aabb", 2, 1)
        self.refused(NotOne, made_of, "aabb", 2, 3)
        self.refused(NotOne, made_of, "aabb", 1, 4)
        self.refused(NotOne, made_of, "bbcc", 2, 2)
        self.refused(NotOne, made_of, "aa", 2, 1)
        self.refused(NotOne, made_of, "aaaaaaaa", 8, 1)

    def test_refusals_ahead(self):
        for text in ("", "a", "aabb", "z"):
            for kinds in WRONG_KINDS:
                for length in (1, 2, 8) + WRONG_LENGTHS:
                    self.refused(BadKinds, made_of, text, length, kinds)
            for length in WRONG_LENGTHS:
                for kinds in range(1, 7):
                    self.refused(BadWord, made_of, text, length, kinds)
            for length, kinds in TOO_GREAT:
                self.refused(TooMany, made_of, text, length, kinds)


if __name__ == "__main__":
    unittest.main()
