"""The whole program, points 0.1 to 0.6: what its parts tell of the same words fits together."""

import itertools
import random
import unittest

import onceround.errors
from onceround.counts import least_by, leasts_up_to, up_to
from onceround.desk import Desk
from onceround.errors import BadDeed, BadKinds, BadRule, BadText, BadWord, NoRing, NoSuch, NotOne, OnceError, TooMany
from onceround.exchanges import all_exchanges, back_deed, exchange, led, walked
from onceround.far import letter_at, piece_at, place_of, ring_size, whole_ring
from onceround.lastways import parts_of, ring_of
from onceround.none import shows_no_ring, shows_no_row, why_no_ring, why_no_row
from onceround.numbered import ring_by, ring_count, ring_number, row_by, row_count, row_number, rows_from
from onceround.pages import answers, page_text, read_page
from onceround.primes import leasts, primes_of, word_count
from onceround.rings import closed, is_ring, is_row, least_ring, least_row, row_at, told_ring
from onceround.rounds import first_row, joined, rounds
from onceround.rules import Rule, exchanged, made_of, turning
from onceround.trees import tree_by, tree_count, tree_number
from onceround.turns import least_turn, root
from onceround.webs import Web, outs, pieces
from onceround.words import all_words, letters, turned, windows, word_of

GREAT = 10 ** 59
# A number of more figures than Python writes as a text without being told so.
VAST = 10 ** 6000
# Lengths and kinds of which there are at most 64 words.
WHOLE = [(length, kinds) for length in range(1, 9) for kinds in range(1, 7) if kinds ** length <= 64]


def texts_of(size, kinds):
    return ["".join(signs) for signs in itertools.product("abcdef"[:kinds], repeat=size)]


def ring_windows(text, length):
    return ["".join(text[(place + step) % len(text)] for step in range(length)) for place in range(len(text))]


def chance_webs(chance, many):
    """Webs of all sizes that have rings: the windows of texts, gone round, where these are unlike."""
    found = []
    while len(found) < many:
        length, kinds = chance.choice(((1, 6), (2, 3), (2, 6), (3, 2), (3, 4), (4, 3), (5, 2), (6, 2), (8, 2)))
        text = "".join(chance.choice("abcdef"[:kinds]) for _ in range(chance.randint(1, 16)))
        words = ring_windows(text, length)
        if len(set(words)) == len(words):
            found.append(Web(words))
    return found


WEBS = [Web(texts_of(length, kinds)) for length, kinds in WHOLE] + chance_webs(random.Random(1), 120)


class Case(unittest.TestCase):
    def refused(self, refusal, deed, *handed):
        with self.assertRaises(OnceError) as taken:
            deed(*handed)
        self.assertIs(type(taken.exception), refusal)
        self.assertEqual(refusal.__bases__, (OnceError,))
        return taken.exception


def written(web, choose):
    """The ring that a desk writes whose next letter is chosen so."""
    desk = Desk(web)
    while desk.done() is None:
        desk.write(choose(desk.nexts()))
    return desk.done()


class LeastRing(Case):
    def test_told_in_every_way(self):
        for web in WEBS:
            ring = least_ring(web)
            self.assertEqual(ring_by(web, 0), ring)
            self.assertEqual(written(web, min), ring)
            self.assertEqual(answers(page_text(web, [("ring",), ("ring", "0"), ("number", ring)]))[:2], [ring, ring])
            self.assertEqual(ring_number(web, ring), 0)
            self.assertEqual(least_row(web), row_at(web, ring, 0))
            self.assertEqual(row_by(web, 0), row_at(web, ring, 0))

    def test_of_all_words(self):
        for length, kinds in WHOLE:
            web = Web(all_words(length, kinds))
            first = "a" * length
            ring = whole_ring(first, kinds)
            self.assertEqual(least_ring(web), ring)
            self.assertEqual(ring_size(first, kinds), len(web.words))
            self.assertEqual(piece_at(first, kinds, 0, len(ring)), ring)
            asks = ["ring", "ring 0", f"piece {first} {kinds} 0 {len(ring)}"]
            self.assertEqual(answers("\n".join([f"all {length} {kinds}"] + asks)), [ring] * 3)
            self.assertEqual("".join(root(word) for word in leasts(length, kinds)), ring)
            for place, word in enumerate(windows(ring, length, True)):
                self.assertEqual(place_of(first, kinds, word), place)
                self.assertEqual(letter_at(first, kinds, place), word[0])

    def test_of_the_words_of_a_first(self):
        for length, kinds in WHOLE:
            for first in leasts(length, kinds)[::3]:
                words = [word for word in all_words(length, kinds) if least_turn(word) >= first]
                web = Web(words)
                ring = whole_ring(first, kinds)
                self.assertEqual(least_ring(web), ring)
                self.assertEqual(written(web, min), ring)
                self.assertEqual(len(words), ring_size(first, kinds))
                self.assertEqual(len(words), word_count(length, kinds) - up_to(first, kinds) + len(root(first)))


class GreatestRing(Case):
    def test_told_in_every_way(self):
        for web in WEBS:
            last = ring_count(web) - 1
            ring = ring_by(web, last)
            self.assertEqual(written(web, max), ring)
            self.assertEqual(answers(page_text(web, [("ring", str(last)), ("ring", str(last + 1)), ("rings",)])),
                             [ring, "no such", str(last + 1)])

    def test_first_rows(self):
        # Of all rows that begin with the letter a, as often as the length tells, the first row is the greatest.
        for length, kinds in WHOLE:
            web = Web(all_words(length, kinds))
            ring = ring_by(web, ring_count(web) - 1)
            self.assertEqual(first_row(length, kinds), row_at(web, ring, 0))
            self.assertEqual(closed(web, first_row(length, kinds)), ring)


class Fitting(Case):
    def test_counts_and_numbers(self):
        chance = random.Random(2)
        for web in WEBS:
            many = ring_count(web)
            home = web.words[0][:-1]
            product = tree_count(web, home)
            for piece in pieces(web):
                for factor in range(1, len(outs(web, piece))):
                    product *= factor
            self.assertEqual(many, product)
            self.assertEqual(row_count(web), many * len(web.words))
            self.assertEqual(sum(rows_from(web, piece) for piece in pieces(web)), row_count(web))
            self.assertEqual(Desk(web).ways(), many)
            number = chance.randrange(many)
            ring = ring_by(web, number)
            self.assertEqual(ring_number(web, ring), number)
            self.assertEqual(answers(page_text(web, [("ring", str(number)), ("rings",), ("rows",)])),
                             [ring, str(many), str(row_count(web))])

    def test_rings_rows_and_turns(self):
        chance = random.Random(3)
        for web in WEBS:
            ring = ring_by(web, chance.randrange(ring_count(web)))
            place = chance.randrange(len(ring))
            row = row_at(web, ring, place)
            self.assertTrue(is_row(web, row))
            self.assertEqual(closed(web, row), ring)
            self.assertEqual(told_ring(web, turned(ring, place)), ring)
            self.assertEqual(row_by(web, row_number(web, row)), row)
            found = answers(page_text(web, [("number", row), ("number", ring)]))
            self.assertIn(f"row {row_number(web, row)}", found[0])
            self.assertTrue(found[1].startswith(f"ring {ring_number(web, ring)}"))

    def test_parts(self):
        chance = random.Random(4)
        for web in WEBS:
            ring = ring_by(web, chance.randrange(ring_count(web)))
            tree, orders = parts_of(web, ring)
            self.assertEqual(ring_of(web, tree, orders), ring)
            home = web.words[0][:-1]
            self.assertEqual(tree_by(web, home, tree_number(web, home, tree)), tree)
            other = tree_by(web, home, chance.randrange(tree_count(web, home)))
            orders = [tuple(word for word in outs(web, piece) if word not in other and word != web.words[0])
                      for piece in pieces(web)]
            self.assertTrue(is_ring(web, ring_of(web, other, orders)))

    def test_desks(self):
        chance = random.Random(5)
        for web in WEBS[::2]:
            ring = ring_by(web, chance.randrange(ring_count(web)))
            desk = Desk(web)
            for letter in row_at(web, ring, 0)[web.length:]:
                self.assertIn(letter, desk.nexts())
                desk.write(letter)
            self.assertEqual(desk.done(), ring)
            self.assertEqual(desk.ahead(), ring_number(web, ring))
            for letter in reversed(row_at(web, ring, 0)[web.length:]):
                self.assertEqual(desk.back(), letter)
            self.refused(NoSuch, desk.back)

    def test_deeds(self):
        chance = random.Random(6)
        for web in WEBS:
            many = ring_count(web)
            one, two = ring_by(web, chance.randrange(many)), ring_by(web, chance.randrange(many))
            deeds = led(web, one, two)
            self.assertLess(len(deeds), len(web.words))
            rings = walked(web, one, deeds)
            self.assertEqual(rings[-1], two)
            for ring in rings:
                self.assertEqual(ring_by(web, ring_number(web, ring)), ring)
            self.assertEqual(walked(web, two, [back_deed(deed) for deed in reversed(deeds)]), rings[::-1])
            told = " ".join(":".join(map(str, deed)) for deed in deeds) or "."
            self.assertEqual(answers(page_text(web, [("lead", one, two)])), [told])

    def test_all_rings_are_led_to_by_exchanges(self):
        for web in WEBS:
            if 1 < ring_count(web) <= 60:
                found, waiting = {least_ring(web)}, [least_ring(web)]
                while waiting:
                    ring = waiting.pop()
                    for deed in all_exchanges(web, ring):
                        other = exchange(web, ring, deed)
                        if other not in found:
                            found.add(other)
                            waiting.append(other)
                self.assertEqual(sorted(found), [ring_by(web, number) for number in range(ring_count(web))])

    def test_rules_and_rings(self):
        for length, kinds in WHOLE:
            web = Web(all_words(length, kinds))
            rule, pairs = joined(turning(length, kinds))
            self.assertEqual(len(pairs) + 1, leasts_up_to(letters(kinds)[-1] * length, kinds))
            ring = rounds(rule)[0]
            self.assertTrue(is_ring(web, ring))
            self.assertEqual(made_of(ring, length, kinds).told, rule.told)
            self.assertEqual(rounds(made_of(least_ring(web), length, kinds)), [least_ring(web)])
            self.assertEqual(walked(web, ring, led(web, ring, least_ring(web)))[-1], whole_ring("a" * length, kinds))


class NoRingOrRow(Case):
    def test_papers(self):
        for size in range(1, 6):
            for words in itertools.combinations(texts_of(2, 3), size):
                web = Web(words)
                found = answers(page_text(web, [("ring",), ("row",), ("rings",), ("rows",), ("ring", "0")]))
                ring, row = why_no_ring(web), why_no_row(web)
                self.assertEqual(ring is None, ring_count(web) > 0)
                self.assertEqual(row is None, row_count(web) > 0)
                self.assertEqual(found[2:4], [str(ring_count(web)), str(row_count(web))])
                if ring is None:
                    self.assertEqual(found[0], least_ring(web))
                    self.assertEqual(found[4], ring_by(web, 0))
                else:
                    self.assertTrue(shows_no_ring(web, ring))
                    self.assertEqual(found[0], " ".join(("none", ring[0]) + ring[1]))
                    self.assertEqual(found[4], "no such")
                    self.assertEqual(self.refused(NoRing, Desk, web).paper, ring)
                    self.assertEqual(self.refused(NoRing, least_ring, web).paper, ring)
                if row is not None:
                    self.assertTrue(shows_no_row(web, row))
                    self.assertEqual(found[1], " ".join(("none", row[0]) + row[1]))
                    self.assertEqual(self.refused(NoRing, least_row, web).paper, row)


class Far(Case):
    def test_great_lengths_fit_together(self):
        chance = random.Random(7)
        for kinds in range(1, 7):
            first = "a" * 24
            self.assertEqual(ring_size(first, kinds), word_count(24, kinds))
            for _ in range(5):
                word = word_of(chance.randrange(kinds ** 24), 24, kinds)
                place = place_of(first, kinds, word)
                self.assertEqual(piece_at(first, kinds, place, 24), word)
                rows = ["words a", f"place {first} {kinds} {word}", f"piece {first} {kinds} {place} 24"]
                self.assertEqual(answers("\n".join(rows)), [str(place), word])

    def test_roots_stand_where_the_counts_say(self):
        chance = random.Random(8)
        for kinds in range(2, 7):
            many = leasts_up_to("abcdef"[kinds - 1] * 24, kinds)
            for _ in range(4):
                least = least_by(24, kinds, chance.randrange(many - 1))
                place = up_to(least, kinds) - len(root(least))
                self.assertEqual(place_of("a" * 24, kinds, least), place)
                self.assertEqual(piece_at("a" * 24, kinds, place, 24), least)
                self.assertEqual(place_of(least, kinds, least), 0)


REFUSALS = (BadKinds, BadWord, TooMany, NotOne, NoSuch, BadRule, BadDeed, NoRing, BadText)


class Refusals(Case):
    """Point 0.5."""

    def test_classes(self):
        self.assertEqual(OnceError.__bases__, (ValueError,))
        for refusal in REFUSALS:
            self.assertEqual(refusal.__bases__, (OnceError,))
        found = [value for value in vars(onceround.errors).values() if isinstance(value, type)]
        self.assertEqual(set(found), set(REFUSALS) | {OnceError})

    def test_one_of_each(self):
        web = Web(["ab", "ba"])
        self.refused(BadKinds, letters, VAST)
        self.refused(BadWord, Web, [])
        self.refused(TooMany, all_words, 24, 6)
        self.refused(NotOne, ring_number, web, "ba")
        self.refused(NoSuch, ring_by, web, VAST)
        self.refused(BadRule, Rule, 1, 1, "b")
        self.refused(BadDeed, exchange, web, "ab", (GREAT, VAST, -GREAT, -VAST))
        self.refused(BadDeed, Desk(web).write, "b")
        self.refused(BadDeed, exchanged, turning(1, 2), "a", "a")
        self.assertEqual(self.refused(NoRing, Desk, Web(["ab"])).paper, ("uneven", ("a",)))
        self.assertEqual(self.refused(BadText, read_page, "words a\nrung").at, 2)

    def test_the_first_one_told_goes_first(self):
        self.refused(BadKinds, piece_at, "ba", 7, 0, 201)
        self.refused(BadWord, piece_at, "ba", 2, 0, 201)
        self.refused(TooMany, piece_at, "ab", 2, 0, 201)
        self.refused(BadWord, place_of, "ab", 2, "aaa")
        self.refused(NoSuch, place_of, "ab", 2, "aa")
        self.refused(NotOne, exchange, Web(["ab", "ba"]), "ba", (0, 0, 0, 0))
        self.refused(BadDeed, exchange, Web(["ab", "ba"]), "ab", (0, 0, 0, 0))
        self.refused(BadText, read_page, "all 9 9\nx")
        self.refused(BadKinds, read_page, "all 9 9\nring")
        self.refused(BadWord, read_page, "all 9 6\nring")
        self.refused(TooMany, read_page, "all 8 6\nbar a\nring")


class Own(Case):
    """Point 0.4: what is told stays, whatever is done or asked later, and what is handed in stays as it was."""

    def test_told_lists(self):
        web = Web(["ab", "ac", "ba", "bc", "ca", "cb"])
        desk = Desk(web)
        deeds = (
            lambda: pieces(web), lambda: outs(web, "a"), lambda: tree_by(web, "a", 0),
            lambda: parts_of(web, "abacbc")[0], lambda: parts_of(web, "abacbc")[1],
            lambda: all_exchanges(web, "abacbc"), lambda: walked(web, "abacbc", []),
            lambda: led(web, "abacbc", "abcacb"), desk.nexts, lambda: read_page("words a\nring\nrow 2")[1],
            lambda: answers("words a\nring\nrow 2"), lambda: all_words(2, 2), lambda: leasts(3, 2),
            lambda: primes_of(3, 2), lambda: windows("abc", 2, True), lambda: rounds(turning(2, 2)),
            lambda: joined(turning(2, 2))[1],
        )
        for deed in deeds:
            first, second = deed(), deed()
            self.assertIs(type(first), list)
            kept = list(first)
            first.reverse()
            first.append("z")
            first[0] = "y"
            self.assertEqual(second, kept)
            self.assertEqual(deed(), kept)

    def test_handed_in_words(self):
        words = ["cb", "ca", "bc", "ba", "ac", "ab"]
        web = Web(words)
        self.assertEqual(words, ["cb", "ca", "bc", "ba", "ac", "ab"])
        desk = Desk(web)
        words.clear()
        words.append("zz")
        self.assertEqual(desk.ways(), 3)
        self.assertEqual(ring_count(web), 3)
        self.assertEqual(web.words, ("ab", "ac", "ba", "bc", "ca", "cb"))

    def test_numbers_in_full(self):
        # Twenty figures and more, each of them told.
        web = Web(texts_of(3, 4))
        many = 4 ** 13 * 6 ** 16
        self.assertEqual(ring_count(web), many)
        self.assertEqual(Desk(web).ways(), many)
        self.assertEqual(answers("all 3 4\nrings\nrows"), [str(many), str(64 * many)])
        for told in (ring_count(web), Desk(web).ways(), Desk(web).ahead(), ring_size("a" * 24, 6),
                     place_of("a" * 24, 6, "f" * 24), ring_number(web, least_ring(web))):
            self.assertIs(type(told), int)


if __name__ == "__main__":
    unittest.main()
