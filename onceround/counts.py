"""Stage 8: words counted by their least turns, least words and primes counted and numbered."""

from onceround.errors import NoSuch
from onceround.primes import last_least
from onceround.words import LETTERS, looked, looked_length, number_of, spelled, word_total


# The numbers r of point 8.2, for as many t as the word has letters.
def rests(greater):
    counted = [1]
    for size in range(1, len(greater)):
        counted.append(sum([greater[place] * counted[size - 1 - place] for place in range(size)]))
    return counted


def count_above(word, kinds):
    greater = [kinds - 1 - LETTERS.index(letter) for letter in word]
    counted = rests(greater)
    last = len(word) - 1
    return sum([(place + 1) * greater[place] * counted[last - place] for place in range(len(word))])


def up_to(word, kinds):
    looked(word, kinds)
    # A least turn is not greater than the word just where it is not greater than the last least word there.
    return word_total(len(word), kinds) - count_above(last_least(word, kinds), kinds)


# The greatest word of so many letters that, put together up to the word's length, is not greater than the word.
def greatest_within(word, size, kinds):
    begin = word[:size]
    if begin * (len(word) // size) <= word:
        return begin
    # The letter a alone is never too great, so there is a word ahead.
    return spelled(number_of(begin, kinds) - 1, size, kinds)


# From each length that divides the word's: how many primes of it, put together up to the word's length, are not
# greater than the word.
def primes_within(word, kinds):
    looked(word, kinds)
    counted = {}
    for size in range(1, len(word) + 1):
        if len(word) % size == 0:
            # Each word is a turn of a prime, put together; each prime has as many turns as letters.
            shorter = sum([part * counted[part] for part in counted if size % part == 0])
            counted[size] = (up_to(greatest_within(word, size, kinds), kinds) - shorter) // size
    return counted


def leasts_up_to(word, kinds):
    return sum(primes_within(word, kinds).values())


def primes_up_to(word, kinds):
    return primes_within(word, kinds)[len(word)]


# The first word up to which so many are counted, and one more.
def first_word_above(length, kinds, number, counted_up_to):
    looked_length(length, kinds)
    first = 0
    last = word_total(length, kinds) - 1
    if number < 0 or number >= counted_up_to(spelled(last, length, kinds), kinds):
        raise NoSuch("there is no word of this number")
    while first < last:
        middle = (first + last) // 2
        if counted_up_to(spelled(middle, length, kinds), kinds) > number:
            last = middle
        else:
            first = middle + 1
    return spelled(first, length, kinds)


def least_by(length, kinds, number):
    return first_word_above(length, kinds, number, leasts_up_to)


def prime_by(length, kinds, number):
    return first_word_above(length, kinds, number, primes_up_to)
