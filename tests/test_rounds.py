"""Points 7.3 to 7.8 as far as rounds and first rows go, and 0.2 to 0.6 as far as they touch these."""

import itertools
import random
import unittest

from onceround.errors import BadKinds, BadRule, BadWord, OnceError, TooMany
from onceround.numbered import ring_by, ring_count
from onceround.primes import leasts
from onceround.rings import is_ring
from onceround.rounds import first_row, joined, round_of, rounds
from onceround.rules import Rule, exchanged, is_fair, made_of, partners, turning
from onceround.turns import root
from onceround.webs import Web

GREAT = 10 ** 59
# A number of more figures than Python writes as a text without being told so.
VAST = 10 ** 6000
WRONG_KINDS = (0, 7, 8, 26, -1, -2, -6, -7, GREAT, -GREAT, VAST, -VAST)
WRONG_LENGTHS = (0, 9, 10, 24, 25, -1, -8, GREAT, -GREAT, VAST, -VAST)
STRANGE_SIGNS = ("g", "z", "A", "F", "`", " ", "\n", "\0", "0", "-", "\u00e4", "\u0430", "\ud800", "\U0001f600")
# Lengths and kinds of which there are at most 64 words, and those of which there are more.
SIZES = [(length, kinds) for length in range(1, 9) for kinds in range(1, 7) if kinds ** length <= 64]
TOO_GREAT = [(length, kinds) for length in range(1, 9) for kinds in range(1, 7) if kinds ** length > 64]


def texts_of(size, kinds):
    return ["".join(signs) for signs in itertools.product("abcdef"[:kinds], repeat=size)]


def ring_windows(text, length):
    return ["".join(text[(place + step) % len(text)] for step in range(length)) for place in range(len(text))]


def row_windows(text, length):
    return [text[place:place + length] for place in range(len(text) - length + 1)]


def told_by(length, kinds, chosen):
    """What the fair rule tells whose partners with the same rest are told the letters of its order."""
    letters = {}
    for rest, order in zip(texts_of(length - 1, kinds), chosen):
        for first, letter in zip("abcdef", order):
            letters[first + rest] = letter
    return "".join(letters[word] for word in texts_of(length, kinds))


def fair_tolds(chance, length, kinds, most, some):
    """What all fair rules of a size tell, where they are no more than told; else what some of them tell."""
    orders = list(itertools.permutations("abcdef"[:kinds]))
    rests = kinds ** (length - 1)
    if len(orders) ** rests <= most:
        return [told_by(length, kinds, chosen) for chosen in itertools.product(orders, repeat=rests)]
    return [told_by(length, kinds, [chance.choice(orders) for _ in range(rests)]) for _ in range(some)]


def behind_of(length, kinds, told):
    return {word: word[1:] + letter for word, letter in zip(texts_of(length, kinds), told)}


def slow_cycle(behind, word):
    """The words of a round, from its least one on."""
    gone = [word]
    while behind[gone[-1]] != word:
        gone.append(behind[gone[-1]])
    start = gone.index(min(gone))
    return gone[start:] + gone[:start]


def slow_rounds(behind):
    return sorted({"".join(word[0] for word in slow_cycle(behind, one)) for one in behind})


def slow_joined(length, kinds, told):
    behind = behind_of(length, kinds, told)
    words = texts_of(length, kinds)
    pairs = []
    for one, two in itertools.combinations(words, 2):
        if one[0] != two[0] and one[1:] == two[1:] and two not in slow_cycle(behind, one):
            behind[one], behind[two] = behind[two], behind[one]
            pairs.append((one, two))
    return "".join(behind[word][-1] for word in words), pairs


class Case(unittest.TestCase):
    def refused(self, refusal, deed, *handed):
        with self.assertRaises(OnceError) as taken:
            deed(*handed)
        self.assertIs(type(taken.exception), refusal)
        self.assertEqual(refusal.__bases__, (OnceError,))

    def is_text(self, found, expected):
        self.assertIs(type(found), str)
        self.assertEqual(found, expected)

    def is_list(self, found, expected):
        self.assertIs(type(found), list)
        self.assertEqual(found, expected)

    def is_rule(self, found, length, kinds, told):
        self.assertIs(type(found), Rule)
        self.assertEqual((found.length, found.kinds), (length, kinds))
        self.is_text(found.told, told)


class Rounds(Case):
    """Point 7.3: rounds and round_of."""

    def test_examples(self):
        self.is_list(rounds(Rule(1, 1, "a")), ["a"])
        self.is_list(rounds(Rule(8, 1, "a")), ["a"])
        self.is_list(rounds(Rule(1, 2, "ab")), ["a", "b"])
        self.is_list(rounds(Rule(1, 2, "ba")), ["ab"])
        self.is_list(rounds(Rule(1, 6, "bcafed")), ["abc", "df", "e"])
        self.is_list(rounds(Rule(2, 2, "aabb")), ["a", "ab", "b"])
        self.is_list(rounds(Rule(2, 2, "bbaa")), ["aabb"])
        self.is_list(rounds(Rule(2, 2, "abba")), ["a", "abb"])
        self.is_list(rounds(Rule(2, 2, "baab")), ["aab", "b"])

    def test_round_of_examples(self):
        rule = Rule(1, 6, "bcafed")
        for word, expected in zip("abcdef", ("abc", "abc", "abc", "df", "e", "df")):
            self.is_text(round_of(rule, word), expected)
        for word in ("ab", "bb", "ba"):
            self.is_text(round_of(Rule(2, 2, "abba"), word), "abb")
        self.is_text(round_of(Rule(2, 2, "abba"), "aa"), "a")
        self.is_text(round_of(Rule(8, 1, "a"), "aaaaaaaa"), "a")

    def test_fair_rules_of_all_sizes(self):
        chance = random.Random(731)
        for length, kinds in SIZES:
            for told in fair_tolds(chance, length, kinds, 720, 20):
                rule = Rule(length, kinds, told)
                behind = behind_of(length, kinds, told)
                self.is_list(rounds(rule), slow_rounds(behind))
                self.is_rule(rule, length, kinds, told)

    def test_round_of_all_words(self):
        chance = random.Random(732)
        for length, kinds in SIZES:
            for told in fair_tolds(chance, length, kinds, 24, 8):
                rule = Rule(length, kinds, told)
                behind = behind_of(length, kinds, told)
                for word in behind:
                    words = slow_cycle(behind, word)
                    found = round_of(rule, word)
                    self.is_text(found, "".join(one[0] for one in words))
                    self.assertEqual(ring_windows(found, length), words)
                self.is_rule(rule, length, kinds, told)

    def test_each_word_stands_in_one_round(self):
        chance = random.Random(733)
        for length, kinds in SIZES:
            for told in fair_tolds(chance, length, kinds, 24, 8):
                found = rounds(Rule(length, kinds, told))
                self.assertEqual(found, sorted(set(found)))
                words = [word for text in found for word in ring_windows(text, length)]
                self.assertEqual(sorted(words), texts_of(length, kinds))
                for text in found:
                    self.assertEqual(ring_windows(text, length)[0], min(ring_windows(text, length)))

    def test_all_rules_that_are_not_fair(self):
        for length, kinds in ((1, 2), (2, 2), (3, 2), (1, 3), (1, 4)):
            for told in texts_of(kinds ** length, kinds):
                rule = Rule(length, kinds, told)
                words = texts_of(length, kinds)
                if len(set(behind_of(length, kinds, told).values())) < len(words):
                    self.refused(BadRule, rounds, rule)
                    self.refused(BadRule, joined, rule)
                    for word in words:
                        self.refused(BadRule, round_of, rule, word)

    def test_great_rules_that_are_not_fair(self):
        chance = random.Random(734)
        for length, kinds in SIZES:
            if kinds > 1:
                told = fair_tolds(chance, length, kinds, 0, 1)[0]
                for place in range(len(told)):
                    letter = chance.choice([other for other in "abcdef"[:kinds] if other != told[place]])
                    rule = Rule(length, kinds, told[:place] + letter + told[place + 1:])
                    self.refused(BadRule, rounds, rule)
                    self.refused(BadRule, joined, rule)
                    self.refused(BadRule, round_of, rule, "a" * length)
                    self.refused(BadRule, round_of, rule, texts_of(length, kinds)[place])

    def test_texts_that_are_no_words(self):
        for length, kinds in SIZES:
            # The second rule is not fair, where there are kinds enough: the word is looked at first.
            for told in (turning(length, kinds).told, "a" * kinds ** length):
                rule = Rule(length, kinds, told)
                word = "a" * length
                texts = ["", word + "a", word[1:], word * 2, "a" * 24, "a" * 25, "a" * 2000]
                texts += [letter * length for letter in "abcdef"[kinds:]]
                texts += [word[:-1] + letter for letter in "abcdef"[kinds:]]
                for sign in STRANGE_SIGNS:
                    texts += [sign * length, sign + word[1:], word[:-1] + sign, word + sign]
                for text in texts:
                    self.refused(BadWord, round_of, rule, text)

    def test_a_told_list_is_the_askers_own(self):
        rule = Rule(2, 2, "aabb")
        found = rounds(rule)
        found.append("zz")
        found[0] = "y"
        self.is_list(rounds(rule), ["a", "ab", "b"])
        self.is_rule(rule, 2, 2, "aabb")


class TurningRounds(Case):
    """Point 7.4: the rounds of the turning rule."""

    def test_examples(self):
        self.is_list(rounds(turning(3, 2)), ["a", "aab", "abb", "b"])
        self.is_list(rounds(turning(4, 2)), ["a", "aaab", "aabb", "ab", "abbb", "b"])
        self.is_list(rounds(turning(1, 6)), ["a", "b", "c", "d", "e", "f"])
        self.is_list(rounds(turning(8, 1)), ["a"])

    def test_all_sizes(self):
        for length, kinds in SIZES:
            found = rounds(turning(length, kinds))
            self.is_list(found, sorted(root(word) for word in leasts(length, kinds)))
            self.is_list(found, slow_rounds({word: word[1:] + word[0] for word in texts_of(length, kinds)}))

    def test_round_of(self):
        for length, kinds in SIZES:
            rule = turning(length, kinds)
            for word in texts_of(length, kinds):
                least = min(word[by:] + word[:by] for by in range(length))
                self.is_text(round_of(rule, word), root(least))


class Exchanges(Case):
    """Point 7.5: what becomes of the rounds."""

    def test_examples(self):
        rule = Rule(2, 2, "aabb")
        self.is_list(rounds(exchanged(rule, "aa", "ba")), ["aab", "b"])
        self.is_list(rounds(exchanged(rule, "ab", "bb")), ["a", "abb"])
        self.is_list(rounds(exchanged(exchanged(rule, "ab", "bb"), "aa", "ba")), ["aabb"])
        self.is_list(rounds(exchanged(Rule(2, 2, "bbaa"), "aa", "ba")), ["a", "abb"])

    def test_two_become_one_and_one_becomes_two(self):
        chance = random.Random(753)
        merged = parted = 0
        for length, kinds in SIZES:
            for told in fair_tolds(chance, length, kinds, 24, 3):
                rule = Rule(length, kinds, told)
                before = rounds(rule)
                for one in texts_of(length, kinds):
                    for two in partners(rule, one):
                        after = rounds(exchanged(rule, one, two))
                        touched = {round_of(rule, one), round_of(rule, two)}
                        fresh = [text for text in after if text not in before]
                        gone = [text for text in before if text not in after]
                        self.assertEqual(set(gone), touched)
                        self.assertEqual(len(fresh), 3 - len(touched))
                        merged += len(touched) == 2
                        parted += len(touched) == 1
                        old = sorted(word for text in touched for word in ring_windows(text, length))
                        new = sorted(word for text in fresh for word in ring_windows(text, length))
                        self.assertEqual(old, new)
        self.assertGreater(merged, 100)
        self.assertGreater(parted, 100)

    def test_exchanged_again(self):
        chance = random.Random(754)
        for length, kinds in SIZES:
            told = fair_tolds(chance, length, kinds, 0, 1)[0]
            rule = Rule(length, kinds, told)
            for one in texts_of(length, kinds):
                for two in partners(rule, one):
                    self.is_list(rounds(exchanged(exchanged(rule, one, two), one, two)), rounds(rule))


class Joined(Case):
    """Point 7.6."""

    def is_joined(self, found, length, kinds, told, pairs):
        self.assertIs(type(found), tuple)
        self.assertEqual(len(found), 2)
        self.is_rule(found[0], length, kinds, told)
        self.is_list(found[1], pairs)
        for pair in found[1]:
            self.assertIs(type(pair), tuple)

    def test_examples(self):
        self.is_joined(joined(Rule(1, 1, "a")), 1, 1, "a", [])
        self.is_joined(joined(Rule(8, 1, "a")), 8, 1, "a", [])
        self.is_joined(joined(Rule(1, 2, "ab")), 1, 2, "ba", [("a", "b")])
        self.is_joined(joined(Rule(1, 2, "ba")), 1, 2, "ba", [])
        self.is_joined(joined(Rule(2, 2, "aabb")), 2, 2, "bbaa", [("aa", "ba"), ("ab", "bb")])
        self.is_joined(joined(Rule(2, 2, "abba")), 2, 2, "bbaa", [("aa", "ba")])
        self.is_joined(joined(Rule(1, 3, "abc")), 1, 3, "cab", [("a", "b"), ("a", "c")])
        self.is_joined(joined(Rule(1, 4, "badc")), 1, 4, "dabc", [("a", "c")])

    def test_fair_rules_of_all_sizes(self):
        chance = random.Random(761)
        for length, kinds in SIZES:
            tolds = fair_tolds(chance, length, kinds, 256, 20) + [turning(length, kinds).told]
            for told in tolds:
                rule = Rule(length, kinds, told)
                expected, pairs = slow_joined(length, kinds, told)
                self.is_joined(joined(rule), length, kinds, expected, pairs)
                self.is_rule(rule, length, kinds, told)

    def test_what_comes_of_it(self):
        chance = random.Random(762)
        for length, kinds in SIZES:
            web = Web(texts_of(length, kinds))
            for told in fair_tolds(chance, length, kinds, 24, 8) + [turning(length, kinds).told]:
                rule = Rule(length, kinds, told)
                found, pairs = joined(rule)
                self.assertEqual(len(pairs), len(rounds(rule)) - 1)
                self.assertIs(is_fair(found), True)
                only = rounds(found)
                self.assertEqual(len(only), 1)
                self.assertTrue(is_ring(web, only[0]))
                for one, two in pairs:
                    self.assertLess(one, two)
                    self.assertIn(two, partners(rule, one))
                self.assertEqual(pairs, sorted(set(pairs)))
                for one, two in pairs:
                    rule = exchanged(rule, one, two)
                self.is_rule(found, length, kinds, rule.told)

    def test_rules_of_one_round_stay(self):
        chance = random.Random(763)
        for length, kinds in SIZES:
            web = Web(texts_of(length, kinds))
            for number in {0, ring_count(web) - 1, chance.randrange(ring_count(web))}:
                rule = made_of(ring_by(web, number), length, kinds)
                self.is_joined(joined(rule), length, kinds, rule.told, [])

    def test_what_is_told_is_the_askers_own(self):
        for told, expected in (("bbaa", "bbaa"), ("aabb", "bbaa")):
            rule = Rule(2, 2, told)
            found, pairs = joined(rule)
            self.assertIsNot(found, rule)
            found.told = "zzzz"
            pairs.append(("y", "z"))
            self.is_rule(rule, 2, 2, told)
            self.is_joined(joined(rule), 2, 2, expected, [("aa", "ba"), ("ab", "bb")] if told == "aabb" else [])


class RuleOfARing(Case):
    """Point 7.7: the rule of a ring has one round, that ring."""

    def test_all_sizes(self):
        chance = random.Random(773)
        for length, kinds in SIZES:
            web = Web(texts_of(length, kinds))
            for number in {0, ring_count(web) - 1, chance.randrange(ring_count(web))}:
                ring = ring_by(web, number)
                for by in {0, 1, len(ring) - 1, chance.randrange(len(ring))}:
                    rule = made_of(ring[by:] + ring[:by], length, kinds)
                    self.is_list(rounds(rule), [ring])
                    self.is_text(round_of(rule, chance.choice(web.words)), ring)


class FirstRow(Case):
    """Point 7.8."""

    def slow_row(self, length, kinds):
        row = "a" * length
        while True:
            known = row_windows(row, length)
            coming = [letter for letter in "fedcba"[-kinds:] if (row + letter)[-length:] not in known]
            if not coming:
                return row
            row += coming[0]

    def test_examples(self):
        self.is_text(first_row(1, 1), "a")
        self.is_text(first_row(2, 1), "aa")
        self.is_text(first_row(8, 1), "aaaaaaaa")
        self.is_text(first_row(1, 2), "ab")
        self.is_text(first_row(1, 6), "afedcb")
        self.is_text(first_row(2, 2), "aabba")
        self.is_text(first_row(3, 2), "aaabbbabaa")
        self.is_text(first_row(4, 2), "aaaabbbbabbaababaaa")
        self.is_text(first_row(2, 3), "aaccbcabba")

    def test_all_sizes(self):
        for length, kinds in SIZES:
            words = texts_of(length, kinds)
            row = first_row(length, kinds)
            self.is_text(row, self.slow_row(length, kinds))
            self.assertEqual(sorted(row_windows(row, length)), words)
            self.assertEqual(row[:length], "a" * length)
            self.assertEqual(row[len(words):], "a" * (length - 1))
            self.assertTrue(is_ring(Web(words), row[:len(words)]))
            self.is_list(rounds(made_of(row[:len(words)], length, kinds)), [row[:len(words)]])

    def test_the_greatest_of_all_such_rows(self):
        for length, kinds in SIZES:
            words = texts_of(length, kinds)
            if kinds ** (kinds ** length - 1) <= 50000:
                found = []
                for rest in texts_of(len(words) - 1, kinds):
                    row = "a" * length + rest
                    if sorted(row_windows(row, length)) == words:
                        found.append(row)
                self.is_text(first_row(length, kinds), max(found))

    def test_the_greatest_ring_of_great_webs(self):
        # Rings that are told from the least word begin with n times a, so the last one of them is the greatest.
        for length, kinds in SIZES:
            web = Web(texts_of(length, kinds))
            ring = ring_by(web, ring_count(web) - 1)
            self.is_text(first_row(length, kinds), ring + "a" * (length - 1))

    def test_refusals(self):
        for kinds in WRONG_KINDS:
            for length in (1, 2, 8) + WRONG_LENGTHS:
                self.refused(BadKinds, first_row, length, kinds)
        for length in WRONG_LENGTHS:
            for kinds in range(1, 7):
                self.refused(BadWord, first_row, length, kinds)
        for length, kinds in TOO_GREAT:
            self.refused(TooMany, first_row, length, kinds)


if __name__ == "__main__":
    unittest.main()
