"""Stage 2: least turns, roots, primes, and words parted into primes."""

from onceround.words import turned


def turn_by(word):
    best = 0
    for by in range(1, len(word)):
        # Only a lesser turn is taken: of like turns the least number is told.
        if turned(word, by) < turned(word, best):
            best = by
    return best


def least_turn(word):
    return turned(word, turn_by(word))


def times_of(word):
    for size in range(1, len(word)):
        times = len(word) // size
        if word[:size] * times == word:
            return times
    return 1


def root(word):
    return word[:len(word) // times_of(word)]


def is_least(word):
    return turn_by(word) == 0


def is_prime(word):
    return is_least(word) and times_of(word) == 1


def first_prime(text):
    # What was walked is the prime so far, told again and again. A greater letter than it tells makes all that
    # was walked one prime; a lesser one ends it, since no longer beginning of the text is a prime then.
    size = 1
    for place in range(1, len(text)):
        awaited = text[place - size]
        if text[place] < awaited:
            break
        if text[place] > awaited:
            size = place + 1
    return text[:size]


def parted(word):
    primes = []
    rest = word
    while rest != "":
        prime = first_prime(rest)
        primes.append(prime)
        rest = rest[len(prime):]
    return primes
