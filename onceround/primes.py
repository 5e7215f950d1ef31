"""Stage 2: the least words and the primes of a length, and those next to a word or behind a beginning."""

from onceround.turns import is_least, is_prime
from onceround.words import LETTERS, all_words, letters, looked, looked_length, word_total


def word_count(length, kinds):
    looked_length(length, kinds)
    return word_total(length, kinds)


def filled(text, length, kinds):
    return text + letters(kinds)[-1] * (length - len(text))


def is_beginning(text, length, kinds):
    return len(text) <= length and is_least(filled(text, length, kinds))


def least_from(beginning, length, kinds):
    word = beginning
    while len(word) < length:
        # There is always one: behind a beginning the top letter makes a beginning again.
        going_on = [letter for letter in letters(kinds) if is_beginning(word + letter, length, kinds)]
        word = word + going_on[0]
    return word


def least_beginning(text, length, kinds):
    looked_length(length, kinds)
    if text != "":
        looked(text, kinds)
    if not is_beginning(text, length, kinds):
        return None
    return least_from(text, length, kinds)


def next_least(word, kinds):
    looked(word, kinds)
    # The more letters a greater word shares with the word, the less it is, so the last places come first.
    for place in range(len(word) - 1, -1, -1):
        for letter in letters(kinds):
            text = word[:place] + letter
            if letter > word[place] and is_beginning(text, len(word), kinds):
                return least_from(text, len(word), kinds)
    return None


def last_least(word, kinds):
    looked(word, kinds)
    last = word
    place = len(word)
    while not is_least(last):
        place = place - 1
        lesser = LETTERS.index(word[place]) - 1
        # The letter just below is enough: a beginning stays one when its last letter grows.
        if lesser >= 0:
            last = filled(word[:place] + LETTERS[lesser], len(word), kinds)
    return last


def leasts(length, kinds):
    return [word for word in all_words(length, kinds) if is_least(word)]


def primes_of(length, kinds):
    return [word for word in all_words(length, kinds) if is_prime(word)]
