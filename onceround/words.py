"""Stage 1: letters, words, their numbers, windows, turned and mirrored texts."""

from onceround.errors import BadKinds, BadWord, NoSuch, TooMany

LETTERS = "abcdef"
LONGEST = 24
MOST_WORDS = 4096


def looked_kinds(kinds):
    # No refusal names what it was handed: Python won't write a number of some thousand figures as a text.
    if kinds < 1 or kinds > len(LETTERS):
        raise BadKinds("kinds are a whole number from 1 to 6")


def looked_length(length, kinds):
    looked_kinds(kinds)
    if length < 1 or length > LONGEST:
        raise BadWord("a word has 1 to 24 letters")


def letters(kinds):
    looked_kinds(kinds)
    return LETTERS[:kinds]


def looked(word, kinds):
    looked_length(len(word), kinds)
    known = letters(kinds)
    for sign in word:
        if sign not in known:
            raise BadWord("a word has letters of its kinds alone")


def number_of(word, kinds):
    looked(word, kinds)
    number = 0
    for letter in word:
        number = number * kinds + LETTERS.index(letter)
    return number


def word_total(length, kinds):
    total = 1
    for step in range(length):
        total = total * kinds
    return total


def spelled(number, length, kinds):
    # The last letter changes from each word to the next one, so the letters come from the end on.
    backward = []
    rest = number
    for step in range(length):
        backward.append(LETTERS[rest % kinds])
        rest = rest // kinds
    return "".join(reversed(backward))


def word_of(number, length, kinds):
    looked_length(length, kinds)
    if number < 0 or number >= word_total(length, kinds):
        raise NoSuch("no word of this length has this number")
    return spelled(number, length, kinds)


def all_words(length, kinds):
    looked_length(length, kinds)
    total = word_total(length, kinds)
    if total > MOST_WORDS:
        raise TooMany("there are more than 4096 words of this length")
    return [spelled(number, length, kinds) for number in range(total)]


def row_windows(text, length):
    return [text[place:place + length] for place in range(len(text) - length + 1)]


def ring_windows(text, length):
    if text == "":
        return []
    size = len(text)
    # A ring may be shorter than its windows, so it is gone round as often as the last window needs.
    around = text * (length // size + 2)
    return [around[place:place + length] for place in range(size)]


def windows(text, length, ring):
    if ring:
        return ring_windows(text, length)
    return row_windows(text, length)


def turned(text, by):
    if text == "":
        return text
    start = by % len(text)
    return text[start:] + text[:start]


def mirrored(text):
    return "".join(reversed(text))
