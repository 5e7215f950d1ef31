"""Point 11.1, and 0.2 to 0.6 as far as they touch it."""

import itertools
import random
import unittest

from onceround.desk import Desk
from onceround.errors import BadDeed, NoRing, NoSuch, OnceError
from onceround.none import why_no_ring
from onceround.numbered import ring_by, ring_count, ring_number
from onceround.rings import is_ring, least_ring, row_at
from onceround.webs import Web

# Length, kinds, and how many words at most: all webs of these are gone through.
SMALL = ((1, 6, 6), (2, 2, 4), (2, 3, 9), (2, 4, 5), (3, 2, 8), (4, 2, 5), (8, 2, 1))
# Lengths and kinds of which there are at most 64 words.
WHOLE = [(length, kinds) for length in range(1, 9) for kinds in range(1, 7) if kinds ** length <= 64]
NO_LETTERS = (
    "", "aa", "ab", "ba", "abcdef", "g", "z", "A", "F", " ", "\n", "\0", "0", "-", "\u00e4", "\u0430", "\ud800",
    "\U0001f600", "a ", " a", "a" * 5000,
)


def texts_of(size, kinds):
    return ["".join(signs) for signs in itertools.product("abcdef"[:kinds], repeat=size)]


def going_round(text, place, many):
    return "".join(text[(place + step) % len(text)] for step in range(many))


def ring_windows(text, length):
    return [going_round(text, place, length) for place in range(len(text))]


def small_webs():
    """All small webs, with all their rings told from the least word, found by going through all texts."""
    for length, kinds, most in SMALL:
        for size in range(1, most + 1):
            found = {}
            for text in texts_of(size, kinds):
                seen = ring_windows(text, length)
                if len(set(seen)) == size and seen[0] == min(seen):
                    found.setdefault(tuple(sorted(seen)), []).append(text)
            for words in itertools.combinations(texts_of(length, kinds), size):
                yield words, found.get(words, [])


WEBS = tuple(small_webs())
RINGED = tuple((words, rings) for words, rings in WEBS if rings)
RINGLESS = tuple(words for words, rings in WEBS if not rings)


def row_of(ring, length):
    return going_round(ring, 0, len(ring) + length - 1)


class Case(unittest.TestCase):
    def refused(self, refusal, deed, *handed):
        with self.assertRaises(OnceError) as taken:
            deed(*handed)
        self.assertIs(type(taken.exception), refusal)
        self.assertEqual(refusal.__bases__, (OnceError,))
        return taken.exception

    def is_whole(self, found, expected):
        self.assertIs(type(found), int)
        self.assertEqual(found, expected)

    def is_text(self, found, expected):
        self.assertIs(type(found), str)
        self.assertEqual(found, expected)

    def are_texts(self, found, expected):
        self.assertIs(type(found), list)
        for text in found:
            self.assertIs(type(text), str)
        self.assertEqual(found, expected)

    def tells(self, desk, written, done, nexts, ways, ahead):
        self.is_text(desk.written(), written)
        if done is None:
            self.assertIsNone(desk.done())
        else:
            self.is_text(desk.done(), done)
        self.are_texts(desk.nexts(), nexts)
        self.is_whole(desk.ways(), ways)
        self.is_whole(desk.ahead(), ahead)

    def tells_as_all_rings(self, desk, rows, size):
        """What the desk tells against the rows from place 0 of all rings of its web, ascending."""
        written = desk.written()
        going = [row for row in rows if row.startswith(written)]
        nexts = sorted({row[len(written)] for row in going if len(row) > len(written)})
        done = None if nexts else written[:size]
        self.tells(desk, written, done, nexts, len(going), rows.index(going[0]))


class Desks(Case):
    def test_example(self):
        desk = Desk(Web(["ab", "ac", "ba", "bc", "ca", "cb"]))
        # The rings are abacbc, abcacb, abcbac.
        self.tells(desk, "ab", None, ["a", "c"], 3, 0)
        self.assertIs(desk.write("c"), True)
        self.tells(desk, "abc", None, ["a", "b"], 2, 1)
        self.assertIs(desk.write("b"), True)
        self.tells(desk, "abcb", None, ["a"], 1, 2)
        self.is_text(desk.back(), "b")
        self.tells(desk, "abc", None, ["a", "b"], 2, 1)
        for letter in "acb":
            self.assertIs(desk.write(letter), True)
        self.tells(desk, "abcacb", None, ["a"], 1, 1)
        self.assertIs(desk.write("a"), True)
        self.tells(desk, "abcacba", "abcacb", [], 1, 1)

    def test_one_word(self):
        for word in ("a", "d", "f", "aa", "cccc", "ffffffff"):
            desk = Desk(Web([word]))
            self.tells(desk, word, word[0], [], 1, 0)
            for text in tuple("abcdef") + NO_LETTERS:
                self.refused(BadDeed, desk.write, text)
            self.refused(NoSuch, desk.back)
            self.tells(desk, word, word[0], [], 1, 0)

    def test_words_of_one_letter(self):
        desk = Desk(Web(list("fcdb")))
        self.tells(desk, "b", None, ["c", "d", "f"], 6, 0)
        desk.write("d")
        self.tells(desk, "bd", None, ["c", "f"], 2, 2)
        desk.write("f")
        self.tells(desk, "bdf", None, ["c"], 1, 3)
        desk.write("c")
        self.tells(desk, "bdfc", "bdfc", [], 1, 3)

    def test_rings_shorter_than_their_words(self):
        desk = Desk(Web(["babababa", "abababab"]))
        self.tells(desk, "abababab", None, ["a"], 1, 0)
        desk.write("a")
        self.tells(desk, "ababababa", "ab", [], 1, 0)

    def test_a_letter_that_makes_a_word_but_cuts_off_others(self):
        # Behind aaba the word baa leads home too early.
        web = Web(["aab", "aba", "abb", "baa", "bab", "bba"])
        desk = Desk(web)
        for row in ("aabab", "aabba"):
            for letter in row[3:]:
                desk.write(letter)
            self.tells_as_all_rings(desk, ["aababbaa", "aabbabaa"], 6)
            desk.back()
            desk.back()
        desk.write("a")
        self.are_texts(desk.nexts(), ["b"])
        self.refused(BadDeed, desk.write, "a")
        self.is_text(desk.written(), "aaba")


class Gone(Case):
    """Every row of letters that can come, of all small webs."""

    def go_through(self, desk, rows, size):
        self.tells_as_all_rings(desk, rows, size)
        written, nexts = desk.written(), desk.nexts()
        for letter in "abcdef":
            if letter not in nexts:
                self.refused(BadDeed, desk.write, letter)
        self.is_text(desk.written(), written)
        for letter in nexts:
            self.assertIs(desk.write(letter), True)
            self.is_text(desk.written(), written + letter)
            self.go_through(desk, rows, size)
            self.is_text(desk.back(), letter)
            self.is_text(desk.written(), written)

    def test_small_webs(self):
        for words, rings in RINGED:
            desk = Desk(Web(words))
            self.go_through(desk, [row_of(ring, len(words[0])) for ring in rings], len(words))
            self.refused(NoSuch, desk.back)

    def test_texts_that_are_no_letters_change_nothing(self):
        for words, rings in RINGED:
            desk = Desk(Web(words))
            rows = [row_of(ring, len(words[0])) for ring in rings]
            for letter in [""] + list(rows[-1][len(words[0]):]):
                if letter:
                    desk.write(letter)
                for text in NO_LETTERS:
                    self.refused(BadDeed, desk.write, text)
                self.tells_as_all_rings(desk, rows, len(words))

    def test_asking_changes_nothing(self):
        for words, rings in RINGED[::9]:
            desk = Desk(Web(words))
            for letter in [""] + list(row_of(rings[0], len(words[0]))[len(words[0]):]):
                if letter:
                    desk.write(letter)
                told = [(desk.written(), desk.done(), desk.nexts(), desk.ways(), desk.ahead()) for _ in range(3)]
                self.assertEqual(told[0], told[1])
                self.assertEqual(told[0], told[2])

    def test_a_written_ring_has_its_number_ahead(self):
        for words, rings in RINGED:
            for number, ring in enumerate(rings[:7]):
                desk = Desk(Web(words))
                for letter in row_of(ring, len(words[0]))[len(words[0]):]:
                    self.assertIsNone(desk.done())
                    desk.write(letter)
                self.is_text(desk.done(), ring)
                self.is_whole(desk.ahead(), number)
                self.is_whole(desk.ways(), 1)


class Back(Case):
    def test_back_to_the_least_word(self):
        desk = Desk(Web(["aa", "ab", "ba", "bb"]))
        for letter in "bba":
            desk.write(letter)
        self.is_text(desk.done(), "aabb")
        for letter in "abb":
            self.is_text(desk.back(), letter)
            self.assertIsNone(desk.done())
        self.is_text(desk.written(), "aa")
        for _ in range(3):
            self.refused(NoSuch, desk.back)
            self.tells(desk, "aa", None, ["b"], 1, 0)

    def test_at_once(self):
        for words, _ in RINGED:
            desk = Desk(Web(words))
            self.refused(NoSuch, desk.back)
            self.is_text(desk.written(), words[0])

    def test_another_way_behind_it(self):
        web = Web(list("abcd"))
        desk = Desk(web)
        for order in itertools.permutations("bcd"):
            for letter in order:
                self.assertIs(desk.write(letter), True)
            self.is_text(desk.done(), "a" + "".join(order))
            for letter in reversed(order):
                self.is_text(desk.back(), letter)
        self.tells(desk, "a", None, ["b", "c", "d"], 6, 0)


class NoRings(Case):
    def test_examples(self):
        for words, paper in ((["ab"], ("uneven", ("a",))), (["aa", "bb"], ("apart", ("a",))),
                             (["ab", "bc"], ("uneven", ("a",))), (["bc", "ba", "cb"], ("uneven", ("a",))),
                             (["ab", "ba", "cd", "dc"], ("apart", ("a", "b")))):
            self.assertEqual(self.refused(NoRing, Desk, Web(words)).paper, paper)

    def test_small_webs(self):
        for words in RINGLESS[::3]:
            web = Web(words)
            paper = self.refused(NoRing, Desk, web).paper
            self.assertEqual(paper, why_no_ring(web))
            self.assertIs(type(paper), tuple)
            self.assertIs(type(paper[1]), tuple)


class Great(Case):
    def test_the_least_letter_each_time(self):
        for length, kinds in WHOLE:
            web = Web(texts_of(length, kinds))
            desk = Desk(web)
            self.is_whole(desk.ways(), ring_count(web))
            while desk.done() is None:
                desk.write(desk.nexts()[0])
            self.is_text(desk.done(), least_ring(web))
            self.tells(desk, row_at(web, desk.done(), 0), least_ring(web), [], 1, 0)

    def test_the_greatest_letter_each_time(self):
        for length, kinds in WHOLE:
            web = Web(texts_of(length, kinds))
            desk = Desk(web)
            while desk.done() is None:
                desk.write(desk.nexts()[-1])
            self.is_text(desk.done(), ring_by(web, ring_count(web) - 1))
            self.is_whole(desk.ahead(), ring_count(web) - 1)

    def test_any_letters(self):
        chance = random.Random(1111)
        for length, kinds in WHOLE:
            web = Web(texts_of(length, kinds))
            desk = Desk(web)
            while desk.done() is None:
                self.keeps_count(desk)
                desk.write(chance.choice(desk.nexts()))
            self.assertTrue(is_ring(web, desk.done()))
            self.is_whole(desk.ahead(), ring_number(web, desk.done()))
            self.is_text(desk.written(), row_at(web, desk.done(), 0))

    def keeps_count(self, desk):
        """The rings that go on are parted among the next letters, in their order."""
        if len(desk.written()) % 13 == 0:
            ways, ahead = desk.ways(), desk.ahead()
            for letter in desk.nexts():
                desk.write(letter)
                self.is_whole(desk.ahead(), ahead)
                ahead += desk.ways()
                ways -= desk.ways()
                desk.back()
            self.assertEqual(ways, 0)


class Own(Case):
    def test_two_desks_of_one_web(self):
        web = Web(["ab", "ac", "ba", "bc", "ca", "cb"])
        one, two = Desk(web), Desk(web)
        one.write("a")
        self.tells(two, "ab", None, ["a", "c"], 3, 0)
        two.write("c")
        two.write("a")
        self.tells(one, "aba", None, ["c"], 1, 0)
        self.tells(two, "abca", None, ["c"], 1, 1)
        one.back()
        self.tells(two, "abca", None, ["c"], 1, 1)
        self.refused(NoSuch, one.back)
        self.is_text(two.back(), "a")
        self.assertEqual(web.words, ("ab", "ac", "ba", "bc", "ca", "cb"))
        self.assertEqual(web.length, 2)

    def test_desks_of_two_webs(self):
        one, two = Desk(Web(["aa", "ab", "ba", "bb"])), Desk(Web(["bc", "cb"]))
        one.write("b")
        self.tells(two, "bc", None, ["b"], 1, 0)
        two.write("b")
        self.tells(one, "aab", None, ["b"], 1, 0)
        self.tells(two, "bcb", "bc", [], 1, 0)

    def test_told_lists_are_the_askers_own(self):
        desk = Desk(Web(["ab", "ac", "ba", "bc", "ca", "cb"]))
        for _ in range(2):
            nexts = desk.nexts()
            nexts.append("z")
            nexts[0] = "y"
            self.tells(desk, "ab", None, ["a", "c"], 3, 0)
        self.refused(BadDeed, desk.write, "z")
        nexts = desk.nexts()
        desk.write("a")
        self.are_texts(nexts, ["a", "c"])

    def test_words_handed_to_the_web(self):
        words = ["ba", "aa", "bb", "ab"]
        desk = Desk(Web(words))
        words.clear()
        self.tells(desk, "aa", None, ["b"], 1, 0)


if __name__ == "__main__":
    unittest.main()
