"""Stage 9: the least ring of all words from a first on, and far places of it, told without writing it."""

from onceround.counts import first_word_above, up_to
from onceround.errors import BadWord, NoSuch, TooMany
from onceround.primes import least_beginning, next_least
from onceround.turns import is_least, least_turn, root, turn_by
from onceround.words import MOST_WORDS, letters, looked, word_total

MOST_OF_A_PIECE = 200


def looked_first(first, kinds):
    looked(first, kinds)
    if not is_least(first):
        raise BadWord("a first is a least word")


# How many words have a lesser least turn than a least word: this word's own turns are as many as its root's letters.
def count_below(least, kinds):
    return up_to(least, kinds) - len(root(least))


def begin_place(first, kinds, least):
    return count_below(least, kinds) - count_below(first, kinds)


def ring_size(first, kinds):
    looked_first(first, kinds)
    return word_total(len(first), kinds) - count_below(first, kinds)


# The roots of the least words from a told one on, round, till there are so many letters, or some more.
def put_together(first, kinds, least, many):
    text = ""
    at = least
    while len(text) < many:
        text = text + root(at)
        later = next_least(at, kinds)
        at = first if later is None else later
    return text


def piece_at(first, kinds, place, many):
    size = ring_size(first, kinds)
    if many > MOST_OF_A_PIECE:
        raise TooMany("a piece has at most 200 letters")
    if many < 0:
        raise NoSuch("there is no piece of less than no letters")
    below = count_below(first, kinds) + place % size
    # So many words have a lesser least turn or stand earlier in this root, so the count first goes beyond them here.
    least = first_word_above(len(first), kinds, below, up_to)
    start = below - count_below(least, kinds)
    return put_together(first, kinds, least, start + many)[start:start + many]


def letter_at(first, kinds, place):
    return piece_at(first, kinds, place, 1)


def looked_for(first, kinds, word):
    looked_first(first, kinds)
    looked(word, kinds)
    if len(word) != len(first):
        raise BadWord("the word has another number of letters than the first")
    if least_turn(word) < first:
        raise NoSuch("the word is none of the first's words")


def place_of(first, kinds, word):
    looked_for(first, kinds, word)
    size = ring_size(first, kinds)
    top = letters(kinds)[-1]
    if word == top * len(word):
        return (size - len(word)) % size
    by = turn_by(word)
    if word[:by] != top * by:
        # The next least word begins as the least turn does, up to these letters, so the word ends in it.
        least = least_turn(word)
        return begin_place(first, kinds, least) + len(root(least)) - by
    # The word is a beginning with top letters, or none, ahead of it. Ahead of the least words that begin so stand as
    # many: the one before them ends so, as the last one of its own beginning, and ahead of the first the ring does.
    later = max(first, least_beginning(word[by:], len(word), kinds))
    return (begin_place(first, kinds, later) - by) % size


def whole_ring(first, kinds):
    size = ring_size(first, kinds)
    if size > MOST_WORDS:
        raise TooMany("the ring has more than 4096 letters")
    return put_together(first, kinds, first, size)
