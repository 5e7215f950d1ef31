"""Stage 7: rounds of a fair rule, rounds joined, and first rows."""

from onceround.errors import BadRule
from onceround.rules import Rule, exchanged, is_fair, looked_size, looked_word, next_word, partners
from onceround.words import LETTERS, all_words, letters, windows


def looked_fair(rule):
    if not is_fair(rule):
        raise BadRule("the rule is not fair")


def words_round(rule, word):
    gone = [word]
    at = next_word(rule, word)
    # Each word is behind just one by a fair rule, so none is met again ahead of the first one.
    while at != word:
        gone.append(at)
        at = next_word(rule, at)
    return gone


def told_round(words):
    return "".join([word[0] for word in words])


def rounds(rule):
    looked_fair(rule)
    found = []
    met = {}
    for word in all_words(rule.length, rule.kinds):
        # Words ascend, so one that was not met yet is the least of its round.
        if word not in met:
            gone = words_round(rule, word)
            found.append(told_round(gone))
            for one in gone:
                met[one] = True
    return sorted(found)


def round_of(rule, word):
    looked_word(rule, word)
    looked_fair(rule)
    return told_round(words_round(rule, min(words_round(rule, word))))


def joined(rule):
    looked_fair(rule)
    # A rule of one round is told anew too, so that it is the asker's own.
    now = Rule(rule.length, rule.kinds, rule.told)
    pairs = []
    for one in all_words(rule.length, rule.kinds):
        for two in partners(rule, one):
            if one < two and two not in words_round(now, one):
                now = exchanged(now, one, two)
                pairs.append((one, two))
    return (now, pairs)


def new_letters(row, length, kinds):
    begin = row[len(row) - length + 1:]
    known = windows(row, length, False)
    return [letter for letter in letters(kinds) if begin + letter not in known]


def first_row(length, kinds):
    looked_size(length, kinds)
    row = LETTERS[0] * length
    coming = new_letters(row, length, kinds)
    while coming != []:
        row = row + coming[-1]
        coming = new_letters(row, length, kinds)
    return row
