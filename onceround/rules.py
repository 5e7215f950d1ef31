"""Stage 7: rules, words behind words, partners, and how a rule is made."""

from onceround.errors import BadDeed, BadRule, BadWord, NotOne, TooMany
from onceround.words import all_words, letters, looked, looked_kinds, number_of, windows, word_total

MOST_OF_A_RULE = 64
LONGEST_OF_A_RULE = 8


def looked_size(length, kinds):
    looked_kinds(kinds)
    if length < 1 or length > LONGEST_OF_A_RULE:
        raise BadWord("a word of a rule has 1 to 8 letters")
    if word_total(length, kinds) > MOST_OF_A_RULE:
        raise TooMany("a rule has at most 64 words")


def looked_told(length, kinds, told):
    if len(told) != word_total(length, kinds):
        raise BadRule("a rule tells one letter for each word")
    known = letters(kinds)
    for sign in told:
        if sign not in known:
            raise BadRule("a rule tells letters of its kinds alone")


class Rule:
    def __init__(self, length, kinds, told):
        looked_size(length, kinds)
        looked_told(length, kinds, told)
        self.length = length
        self.kinds = kinds
        self.told = told


def looked_word(rule, word):
    looked(word, rule.kinds)
    if len(word) != rule.length:
        raise BadWord("the word has another length than the rule's words")


def next_word(rule, word):
    looked_word(rule, word)
    return word[1:] + rule.told[number_of(word, rule.kinds)]


def partners(rule, word):
    looked_word(rule, word)
    return [letter + word[1:] for letter in letters(rule.kinds) if letter != word[0]]


def is_fair(rule):
    every = all_words(rule.length, rule.kinds)
    return sorted([next_word(rule, word) for word in every]) == every


def turning(length, kinds):
    looked_size(length, kinds)
    return Rule(length, kinds, "".join([word[0] for word in all_words(length, kinds)]))


def exchanged(rule, one, two):
    looked_word(rule, one)
    looked_word(rule, two)
    if two not in partners(rule, one):
        raise BadDeed("the two words are no partners")
    told = list(rule.told)
    told[number_of(one, rule.kinds)] = next_word(rule, two)[-1]
    told[number_of(two, rule.kinds)] = next_word(rule, one)[-1]
    return Rule(rule.length, rule.kinds, "".join(told))


def made_of(ring, length, kinds):
    looked_size(length, kinds)
    every = all_words(length, kinds)
    met = windows(ring, length, True)
    if sorted(met) != every:
        raise NotOne("not each word of the length stands just once in the ring")
    # Gone round: behind the last windows come the ring's first letters again.
    behind = [ring[(met.index(word) + length) % len(ring)] for word in every]
    return Rule(length, kinds, "".join(behind))
