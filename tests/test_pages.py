"""Points 11.2 to 11.4, and 0.2 to 0.6 as far as they touch these."""

import itertools
import random
import unittest

from onceround.errors import BadKinds, BadText, BadWord, NoRing, NoSuch, NotOne, OnceError, TooMany
from onceround.exchanges import led, walked
from onceround.far import letter_at, piece_at, place_of, ring_size
from onceround.none import why_no_ring, why_no_row
from onceround.numbered import ring_by, ring_count, ring_number, row_by, row_count, row_number
from onceround.pages import answered, answers, page_text, paper_text, read_page
from onceround.rings import is_ring, is_row, least_ring, least_row
from onceround.webs import Web

# The greatest number that may be written on a page, and the least one that may not.
MOST = "9" * 60
BEYOND = "1" + "0" * 60
# Asks of every kind, each a row.
ASKS = (
    "ring", "row", "rings", "rows", "ring 0", "row 0", "ring 3", "row 12", "ring " + MOST, "row " + MOST, "number a",
    "number aabb", "number " + "f" * 200, "lead a b", "lead aabb aabb", "lead " + "a" * 200 + " " + "b" * 200,
    "piece a 1 0 0", "piece aab 2 5 200", "piece ba 7 0 201", "piece a " + MOST + " " + MOST + " " + MOST,
    "place a 1 a", "place aab 2 bba", "place ba 9 " + "c" * 200, "place a 0 b",
)
# Rows that are none of those told, wherever they stand.
NO_ROWS = (
    "", " ", "  ", "x", "Ring", "RING", "ringx", "rin", "ring ", " ring", "ring  3", "ring  ", "ring -1", "ring +1",
    "ring 03", "ring 00", "ring 1.0", "ring 1_0", "ring 1e3", "ring a", "ring 1 2", "ring " + BEYOND, "ring 0x1",
    "row ", " row", "row 01", "row -0", "row b", "row 1 2", "row " + BEYOND, "rows 1", "rings 1", "rings a", "rows a",
    "rings ", "rows ", "rings rows", "number", "number ", "number 1", "number a b", "number g", "number A",
    "number a1", "number -", "number " + "a" * 201, "number aabb ", "number  aabb", "lead", "lead a", "lead a b c",
    "lead a 1", "lead 1 a", "lead a g", "lead a " + "b" * 201, "lead a  b", "lead  a b", "lead a b ", "piece",
    "piece a", "piece a 1", "piece a 1 0", "piece a 1 0 0 0", "piece a 1 0 a", "piece a a 0 0", "piece 1 1 0 0",
    "piece a 1 -1 0", "piece a 01 0 0", "piece a 1 0 00", "piece g 1 0 0", "piece a 1 0 -1",
    "piece a 1 " + BEYOND + " 0", "piece " + "a" * 201 + " 1 0 0", "piece a  1 0 0", "piece a 1 0 0 ",
    "place", "place a", "place a 1", "place a 1 1", "place a a a", "place a 1 g", "place a 1 a a", "place a 01 a",
    "place a 1 " + "a" * 201, "place a 1 a ", "place a -1 a",
    "all", "all 1", "all 2 2 2", "all a 2", "all 2 a", "all -1 2", "all 2 -1", "all 02 2", "all 2 02",
    "all  2 2", "all 2  2", "all 2 2 ", " all 2 2", "all " + BEYOND + " 2", "all 2 " + BEYOND, "words", "words ",
    "words g", "words a g", "words a A", "words 1", "words a 1", "words a  b", "words  a", " words a", "words a ",
    "words " + "a" * 201, "words a " + "b" * 201, "words ab,ba", "bar", "bar ", "bar a b", "bar g", "bar 1", "bar  a",
    " bar a", "bar a ", "bar " + "a" * 201, "bars a", "word a", "All 2 2", "- a", "ring\t", "ring\r", "bar a\r",
    "words a\tb", "~", "#", "all", "none", "lead a.b",
)


def texts_of(size, kinds):
    return ["".join(signs) for signs in itertools.product("abcdef"[:kinds], repeat=size)]


def going_round(text, place, many):
    return "".join(text[(place + step) % len(text)] for step in range(many))


def page(*rows):
    return "\n".join(rows)


class Case(unittest.TestCase):
    def refused(self, refusal, deed, *handed):
        with self.assertRaises(OnceError) as taken:
            deed(*handed)
        self.assertIs(type(taken.exception), refusal)
        self.assertEqual(refusal.__bases__, (OnceError,))
        return taken.exception

    def page_refused(self, refusal, text):
        self.refused(refusal, read_page, text)
        self.refused(refusal, answers, text)

    def bad_at(self, at, *rows):
        for deed in (read_page, answers):
            refusal = self.refused(BadText, deed, page(*rows))
            self.assertIs(type(refusal.at), int)
            self.assertEqual(refusal.at, at, rows)

    def is_text(self, found, expected):
        self.assertIs(type(found), str)
        self.assertEqual(found, expected)

    def are_texts(self, found, expected):
        self.assertIs(type(found), list)
        for text in found:
            self.assertIs(type(text), str)
        self.assertEqual(found, expected)

    def reads(self, text, words, asks):
        found = read_page(text)
        self.assertIs(type(found), tuple)
        self.assertEqual(len(found), 2)
        self.assertIs(type(found[0]), Web)
        self.assertEqual(found[0].words, tuple(sorted(words)))
        self.assertEqual(found[0].length, len(words[0]))
        self.assertIs(type(found[1]), list)
        for ask in found[1]:
            self.assertIs(type(ask), tuple)
            for word in ask:
                self.assertIs(type(word), str)
        self.assertEqual(found[1], [tuple(ask.split(" ")) for ask in asks])


class Read(Case):
    """Point 11.2."""

    def test_one_row_of_words(self):
        self.reads("words a", ["a"], [])
        self.reads("words ab ba", ["ab", "ba"], [])
        self.reads("words fed abc fff", ["fed", "abc", "fff"], [])
        self.reads("words abcdefab", ["abcdefab"], [])

    def test_more_rows_of_words(self):
        self.reads("words ab\nwords ba", ["ab", "ba"], [])
        self.reads("words ab ca\nwords ba\nwords bc cc aa", ["ab", "ca", "ba", "bc", "cc", "aa"], [])
        self.reads("\n".join("words " + word for word in texts_of(3, 4)), texts_of(3, 4), [])
        self.reads("words bb\nwords ba\nbar c\nring", ["bb", "ba"], ["ring"])

    def test_all(self):
        for length in range(1, 9):
            for kinds in range(1, 7):
                if kinds ** length <= 64:
                    self.reads(f"all {length} {kinds}", texts_of(length, kinds), [])
                    self.reads(f"all {length} {kinds}\nring\nrings", texts_of(length, kinds), ["ring", "rings"])

    def test_bars(self):
        self.reads("all 3 2\nbar aa", ["aba", "abb", "bab", "bba", "bbb"], [])
        self.reads("all 3 2\nbar aa\nbar bb", ["aba", "bab"], [])
        self.reads("all 3 2\nbar aa\nbar bb\nbar aa\nring", ["aba", "bab"], ["ring"])
        self.reads("all 2 3\nbar c", ["aa", "ab", "ba", "bb"], [])
        self.reads("words abc bca cab\nbar ac", ["abc", "bca", "cab"], [])
        self.reads("words abc bca cab\nbar bc", ["cab"], [])
        self.reads("words ab ba\nwords bc\nbar " + "a" * 200, ["ab", "ba", "bc"], [])
        # A whole word is barred too, a longer text bars nothing, and a text is not gone round.
        self.reads("words ab ba\nbar ab", ["ba"], [])
        self.reads("words ab ba\nbar aba", ["ab", "ba"], [])
        self.reads("words abb\nbar ba", ["abb"], [])

    def test_bars_against_all_texts(self):
        chance = random.Random(1121)
        for _ in range(200):
            length, kinds = chance.choice(((1, 6), (2, 6), (3, 4), (3, 3), (4, 2), (5, 2), (6, 2), (2, 3)))
            bars = [chance.choice(texts_of(chance.randint(1, 3), kinds)) for _ in range(chance.randint(0, 3))]
            kept = [word for word in texts_of(length, kinds) if not any(bar in word for bar in bars)]
            rows = ["bar " + bar for bar in bars]
            words = texts_of(length, kinds)
            chance.shuffle(words)
            cut = chance.randint(1, len(words) - 1)
            told = ["words " + " ".join(words[:cut]), "words " + " ".join(words[cut:])]
            if kept:
                self.reads(page(f"all {length} {kinds}", *rows), kept, [])
                self.reads(page(*told, *rows, "row"), kept, ["row"])
            else:
                self.page_refused(BadWord, page(f"all {length} {kinds}", *rows))
                self.page_refused(BadWord, page(*told, *rows, "row"))

    def test_asks(self):
        for ask in ASKS:
            self.reads(page("all 2 2", ask), texts_of(2, 2), [ask])
            self.reads(page("words ab", "words ba", "bar c", ask, ask), ["ab", "ba"], [ask, ask])
        self.reads(page("words a b", *ASKS), ["a", "b"], ASKS)
        self.assertEqual(read_page("words a\nring 3")[1], [("ring", "3")])

    def test_numbers_of_60_figures_and_of_61(self):
        for number in (MOST, "1" + "0" * 59, "123456789012345678901234567890" * 2):
            for ask in ("ring {}", "row {}", "piece a {} 0 0", "piece a 1 {} 0", "piece a 1 0 {}", "place a {} a"):
                self.reads(page("words a", ask.format(number)), ["a"], [ask.format(number)])
                self.bad_at(2, "words a", ask.format(number + "0"))
                self.bad_at(2, "words a", ask.format("0" + number))
        self.page_refused(BadKinds, "all 1 " + MOST)
        self.page_refused(BadWord, "all " + MOST + " 1")
        self.bad_at(1, "all 1 " + BEYOND)
        self.bad_at(1, "all " + BEYOND + " 1")

    def test_texts_of_200_letters_and_of_201(self):
        for row in ("bar {}", "number {}", "lead {} a", "lead a {}", "piece {} 1 0 0", "place {} 1 a", "place a 1 {}"):
            asks = [] if row.startswith("bar") else [row.format("f" * 200)]
            self.reads(page("words a", row.format("f" * 200)), ["a"], asks)
            self.bad_at(2, "words a", row.format("f" * 201))
        # As a word it is too long for a web, but the row is one of those told.
        self.page_refused(BadWord, "words " + "f" * 200)
        self.bad_at(1, "words " + "f" * 201)

    def test_long_pages(self):
        words = texts_of(3, 4)
        asks = ["ring " + str(number) for number in range(1500)]
        text = page("words " + " ".join(words), *asks)
        self.assertLess(len(text), 20000)
        self.reads(text, words, asks)
        bars = ["bar " + bar for bar in texts_of(5, 3) * 8]
        text = page("all 6 2", *bars[:1900])
        self.assertLess(len(text), 20000)
        self.page_refused(BadWord, text)


class Written(Case):
    def test_examples(self):
        self.is_text(page_text(Web(["a"]), []), "words a")
        self.is_text(page_text(Web(["ba", "ab"]), [("ring",), ("ring", "3")]), "words ab ba\nring\nring 3")
        self.is_text(page_text(Web(["c", "a"]), [("lead", "ac", "ac"), ("piece", "aab", "2", "5", "9")]),
                     "words a c\nlead ac ac\npiece aab 2 5 9")

    def test_read_again(self):
        for ask in ASKS:
            web, asks = read_page(page("all 3 2", "bar bbb", ask, "row", ask))
            text = page_text(web, asks)
            self.is_text(text, page("words " + " ".join(texts_of(3, 2)[:-1]), ask, "row", ask))
            self.reads(text, texts_of(3, 2)[:-1], [ask, "row", ask])
            self.is_text(page_text(*read_page(text)), text)
            self.assertEqual(answers(text), answers(page("all 3 2", "bar bbb", ask, "row", ask)))

    def test_great_webs(self):
        for length, kinds in ((3, 4), (6, 2), (2, 6), (8, 1)):
            words = texts_of(length, kinds)
            text = page_text(Web(words[::-1]), [tuple(ask.split(" ")) for ask in ASKS])
            self.is_text(text, page("words " + " ".join(words), *ASKS))
            self.reads(text, words, ASKS)


class Least(Case):
    """The asks `ring`, `row`, `rings`, `rows` of point 11.3."""

    def test_examples(self):
        self.are_texts(answers("all 3 2\nring\nrow\nrings\nrows"), ["aaababbb", "aaababbbaa", "2", "16"])
        self.are_texts(answers("words ab bc\nring\nrow\nrings\nrows"), ["none uneven a", "abc", "0", "1"])
        self.are_texts(answers("words ab cb\nring\nrow\nrings\nrows"), ["none uneven a", "none uneven a c", "0", "0"])
        self.are_texts(answers("words aa bb\nring\nrow\nrings\nrows"), ["none apart a", "none apart a", "0", "0"])
        self.are_texts(answers("words ab ba cd dc\nring\nrow"), ["none apart a b", "none apart a b"])
        self.are_texts(answers("words aaab\nring\nrow"), ["none uneven aaa", "aaab"])
        self.are_texts(answers("words abc dbc ebc\nrow"), ["none uneven ab db eb"])
        self.are_texts(answers("words d b\nring\nrow\nrings\nrows"), ["bd", "bd", "1", "2"])
        self.are_texts(answers("words ffffffff\nring\nrow\nrings\nrows"), ["f", "ffffffff", "1", "1"])

    def test_great_counts(self):
        self.are_texts(answers("all 6 2\nrings\nrows"), ["67108864", str(64 * 67108864)])
        # As many as trees toward one of 16 pieces, times 3 * 2 at each of them.
        self.are_texts(answers("all 3 4\nrings"), [str(4 ** 13 * 6 ** 16)])
        self.are_texts(answers("all 2 6\nrings"), [str(6 ** 4 * 120 ** 6)])

    def test_small_webs_against_the_stages(self):
        for length, kinds in ((1, 3), (2, 2), (2, 3), (3, 2)):
            words = texts_of(length, kinds)
            for size in range(1, 6):
                for some in itertools.combinations(words, size):
                    self.tells_as_the_stages(Web(some))

    def test_the_empty_piece(self):
        # All words of one letter have a ring, so no web's paper names it; a paper may.
        self.is_text(paper_text(("apart", ("",))), "none apart -")
        self.is_text(paper_text(("uneven", ("", "a"))), "none uneven - a")

    def tells_as_the_stages(self, web):
        for ask, least, why, counted in (("ring", least_ring, why_no_ring, ring_count),
                                         ("row", least_row, why_no_row, row_count)):
            paper = why(web)
            if paper is None:
                expected = least(web)
            else:
                expected = "none " + paper[0] + "".join(" " + (piece or "-") for piece in paper[1])
                with self.assertRaises(NoRing):
                    least(web)
            self.is_text(answered(web, (ask,)), expected)
            self.is_text(answered(web, (ask + "s",)), str(counted(web)))


class Numbered(Case):
    """The asks `ring N`, `row N`, `number TEXT`."""

    def test_examples(self):
        self.are_texts(answers("all 3 2\nring 0\nring 1\nring 2\nring " + MOST),
                       ["aaababbb", "aaabbbab", "no such", "no such"])
        self.are_texts(answers("all 3 2\nrow 0\nrow 15\nrow 16\nrow " + MOST),
                       ["aaababbbaa", "bbbabaaabb", "no such", "no such"])
        self.are_texts(answers("words ab bc\nring 0\nrow 0\nrow 1"), ["no such", "abc", "no such"])
        self.are_texts(answers("words ab cb\nring 0\nrow 0"), ["no such", "no such"])
        self.are_texts(answers("all 3 2\nnumber aaabbbab\nnumber bbbabaaabb\nnumber bbbabaaa\nnumber f"),
                       ["ring 1", "row 15", "neither", "neither"])

    def test_ring_and_row(self):
        # Of words of one letter a text may be both.
        self.are_texts(answers("words a b c\nnumber abc\nnumber acb\nnumber bac\nnumber ab\nnumber abca"),
                       ["ring 0 row 0", "ring 1 row 1", "row 2", "neither", "neither"])
        self.are_texts(answers("words e\nnumber e\nnumber ee"), ["ring 0 row 0", "neither"])
        self.are_texts(answers("words ee\nnumber e\nnumber ee\nnumber eee"), ["ring 0", "row 0", "neither"])
        self.are_texts(answers("words ab bc\nnumber abc\nnumber ab\nnumber a"), ["row 0", "neither", "neither"])

    def test_all_numbers_of_small_webs(self):
        for words in (texts_of(1, 4), texts_of(2, 2), texts_of(3, 2), ["ab", "ac", "ba", "bc", "ca", "cb"],
                      ["ab", "bb", "bc"], ["ab", "cb"], ["aa", "bb"], ["aab", "aba", "baa"], ["ab", "ba", "bb", "bc"]):
            web = Web(words)
            for number in range(ring_count(web) + 2):
                expected = ring_by(web, number) if number < ring_count(web) else "no such"
                self.is_text(answered(web, ("ring", str(number))), expected)
            for number in range(row_count(web) + 2):
                expected = row_by(web, number) if number < row_count(web) else "no such"
                self.is_text(answered(web, ("row", str(number))), expected)

    def test_all_texts_of_small_webs(self):
        for words in (texts_of(1, 3), texts_of(2, 2), ["ab", "bb", "bc"], ["aa", "bb"], ["a", "c"],
                      ["aa", "ab", "ac", "ba", "ca"]):
            web = Web(words)
            for size in range(1, len(words) + 3):
                for text in texts_of(size, 3):
                    expected = []
                    if is_ring(web, text):
                        expected.append(f"ring {ring_number(web, text)}")
                    if is_row(web, text):
                        expected.append(f"row {row_number(web, text)}")
                    self.is_text(answered(web, ("number", text)), " ".join(expected) or "neither")

    def test_great_numbers(self):
        web = Web(texts_of(3, 4))
        many = ring_count(web)
        self.is_text(answered(web, ("number", ring_by(web, many - 1))), f"ring {many - 1}")
        self.is_text(answered(web, ("ring", str(many - 1))), ring_by(web, many - 1))
        self.is_text(answered(web, ("ring", str(many))), "no such")
        many = row_count(web)
        self.is_text(answered(web, ("number", row_by(web, many - 1))), f"row {many - 1}")
        self.is_text(answered(web, ("row", str(many - 1))), row_by(web, many - 1))
        self.is_text(answered(web, ("row", str(many))), "no such")


class Led(Case):
    """The ask `lead TEXT TEXT`."""

    def test_examples(self):
        self.are_texts(answers("all 3 2\nlead aaababbb aaabbbab\nlead aaababbb aaababbb"), ["2:3:4:7", "."])
        self.are_texts(answers("words e\nlead e e\nlead e ee\nlead ee e"), [".", "no ring", "no ring"])

    def test_no_ring(self):
        rows = ["lead aaababbb aababbba", "lead aababbba aaababbb", "lead a a", "lead aababbba aababbba",
                "lead aaababbb aaababbbaa", "lead aaababbb " + "f" * 200]
        self.are_texts(answers(page("all 3 2", *rows)), ["no ring"] * len(rows))
        self.are_texts(answers("words ab bc\nlead abc abc\nlead ab ab"), ["no ring", "no ring"])

    def test_all_pairs_of_small_webs(self):
        for words in (texts_of(1, 5), ["ab", "ac", "ba", "bc", "ca", "cb"], texts_of(2, 3), texts_of(4, 2)):
            web = Web(words)
            rings = [ring_by(web, number) for number in range(min(ring_count(web), 24))]
            for one, two in itertools.product(rings, repeat=2):
                found = answered(web, ("lead", one, two))
                deeds = led(web, one, two)
                self.is_text(found, " ".join(":".join(str(place) for place in deed) for deed in deeds) or ".")
                if one == two:
                    self.is_text(found, ".")
                else:
                    told = [tuple(int(place) for place in deed.split(":")) for deed in found.split(" ")]
                    self.assertEqual(walked(web, one, told)[-1], two)
                    self.assertLess(len(told), len(words))


class Far(Case):
    """The asks `piece` and `place`."""

    def test_examples(self):
        self.are_texts(answers(page("words a", "piece aaa 2 0 8", "piece aaa 2 6 4", "piece aaa 2 8 3",
                                    "piece bb 2 " + MOST + " 3", "piece aaa 2 5 0", "place aaa 2 bba",
                                    "place abb 2 bab", "place a 1 a")),
                       ["aaababbb", "bbaa", "aaa", "bbb", "", "6", "3", "0"])

    def test_refused(self):
        for ask, refusal in (
            ("piece a 0 0 1", "BadKinds"), ("piece a 7 0 1", "BadKinds"), ("piece a " + MOST + " 0 1", "BadKinds"),
            ("piece ba 7 0 201", "BadKinds"), ("piece c 2 0 1", "BadWord"), ("piece ba 2 0 1", "BadWord"),
            ("piece " + "a" * 25 + " 2 0 1", "BadWord"), ("piece " + "a" * 200 + " 6 0 1", "BadWord"),
            ("piece ba 2 0 201", "BadWord"), ("piece a 2 0 201", "TooMany"), ("piece a 2 0 " + MOST, "TooMany"),
            ("piece " + "a" * 24 + " 6 " + MOST + " 201", "TooMany"),
            ("place a 0 a", "BadKinds"), ("place ba 7 c", "BadKinds"), ("place ba 2 ab", "BadWord"),
            ("place ab 2 abb", "BadWord"), ("place ab 2 ac", "BadWord"), ("place ab 2 " + "a" * 200, "BadWord"),
            ("place f 5 a", "BadWord"), ("place ab 2 aa", "NoSuch"), ("place bbb 2 bab", "NoSuch"),
            ("place " + "a" * 23 + "b 6 " + "a" * 24, "NoSuch"),
        ):
            self.are_texts(answers(page("words a", ask)), ["refused " + refusal])
            self.is_text(answered(Web(["ab"]), tuple(ask.split(" "))), "refused " + refusal)

    def test_whatever_the_web(self):
        for words in (["a"], ["ab", "cb"], texts_of(6, 2)):
            for kinds, first in ((1, "aaa"), (2, "aab"), (6, "abcd"), (6, "a" * 24), (3, "bbc")):
                web = Web(words)
                for place in (0, 3, ring_size(first, kinds) - 1, 10 ** 59):
                    for many in (0, 1, 24, 200):
                        ask = ("piece", first, str(kinds), str(place), str(many))
                        self.is_text(answered(web, ask), piece_at(first, kinds, place, many))
                    word = piece_at(first, kinds, place, len(first))
                    found = answered(web, ("place", first, str(kinds), word))
                    self.is_text(found, str(place_of(first, kinds, word)))
                    self.assertEqual(int(found), place % ring_size(first, kinds))
                    self.assertEqual(letter_at(first, kinds, int(found)), word[0])


class Answers(Case):
    def test_no_asks(self):
        self.are_texts(answers("words a"), [])
        self.are_texts(answers("all 2 2\nbar b"), [])

    def test_in_the_order_of_the_asks(self):
        web = Web(texts_of(2, 2))
        asks = [tuple(ask.split(" ")) for ask in ASKS]
        self.are_texts(answers(page("all 2 2", *ASKS)), [answered(web, ask) for ask in asks])
        self.are_texts(answers(page("all 2 2", *ASKS[::-1])), [answered(web, ask) for ask in asks[::-1]])
        self.are_texts(answers("words aa ab ba bb\nrows\nring\nrows\nring"), ["4", "aabb", "4", "aabb"])

    def test_of_the_words_that_no_bar_leaves_out(self):
        self.are_texts(answers("all 3 2\nbar aa\nbar bb\nring\nrings\nrow 1"), ["ab", "1", "baba"])
        self.are_texts(answers("all 2 3\nbar bb\nbar c\nring\nrow"), ["aab", "aaba"])

    def test_the_same_as_by_the_stages(self):
        web = Web(texts_of(2, 3))
        self.are_texts(answers("all 2 3\nring\nrow\nrings\nring 5\nrow 7"),
                       [least_ring(web), least_row(web), str(ring_count(web)), ring_by(web, 5), row_by(web, 7)])


class Places(Case):
    """BadText and its `at`, of point 11.4."""

    def test_rows_that_are_none(self):
        for row in NO_ROWS:
            self.bad_at(1, row)
            self.bad_at(1, row, "words a", "ring")
            self.bad_at(2, "words a", row)
            self.bad_at(2, "all 2 2", row, "ring")
            self.bad_at(3, "words a", "words b", row)
            self.bad_at(3, "words a", "bar b", row)
            self.bad_at(3, "all 1 2", "ring", row, "rings")
            self.bad_at(4, "words a", "bar b", "ring", row)

    def test_signs_that_are_no_figures_or_no_letters(self):
        for sign in [chr(number) for number in range(32, 127)]:
            if sign not in "0123456789":
                for row in ("ring 1" + sign, "row " + sign + "1", "piece a 1 0 " + sign, "place a 1" + sign + " a"):
                    self.bad_at(2, "words a", row)
                self.bad_at(1, "all 2 " + sign)
                self.bad_at(1, "all 2" + sign + " 2")
            if sign not in "abcdef":
                for row in ("bar a" + sign, "number " + sign + "a", "lead a " + sign, "place a 1 a" + sign):
                    self.bad_at(2, "words a", row)
                self.bad_at(1, "words ab" + sign)
                self.bad_at(1, "words " + sign + "ab ba")

    def test_pages_without_rows(self):
        self.bad_at(1, "")
        self.bad_at(1, "", "")
        self.bad_at(1, "", "words a")
        self.bad_at(1, " ")

    def test_line_ends(self):
        # A line end behind the last row makes one more row, an empty one.
        self.bad_at(2, "words a", "")
        self.bad_at(2, "all 2 2", "")
        self.bad_at(3, "words a", "ring", "")
        self.bad_at(2, "words a", "", "ring")
        self.bad_at(3, "words a", "ring", "", "")
        self.bad_at(3, "words a", "bar b", "", "ring")

    def test_nothing_that_tells_a_web_ahead(self):
        for row in ASKS + ("bar a", "bar " + "b" * 200):
            self.bad_at(1, row)
            self.bad_at(1, row, "words a")
            self.bad_at(1, row, "all 2 2", "ring")
            self.bad_at(1, row, row)

    def test_a_web_behind_a_bar_or_an_ask(self):
        for first in ("words a", "all 2 2"):
            for row in ("words b", "words a", "all 2 2", "all 1 1"):
                self.bad_at(3, first, "bar c", row)
                self.bad_at(4, first, "bar c", "bar d", row, "ring")
                for ask in ASKS:
                    self.bad_at(3, first, ask, row)
                    self.bad_at(4, first, "bar c", ask, row)

    def test_a_web_of_the_other_kind(self):
        self.bad_at(2, "all 2 2", "words a")
        self.bad_at(2, "all 2 2", "words ab", "ring")
        self.bad_at(2, "words aa", "all 2 2")
        self.bad_at(3, "words aa", "words bb", "all 2 2")

    def test_a_second_all(self):
        self.bad_at(2, "all 2 2", "all 2 2")
        self.bad_at(2, "all 2 2", "all 1 2", "ring")

    def test_a_bar_behind_an_ask(self):
        for ask in ASKS:
            self.bad_at(3, "words a", ask, "bar b")
            self.bad_at(3, "all 2 2", ask, "bar b", ask)
            self.bad_at(4, "all 2 2", "bar a", ask, "bar b")

    def test_the_first_such_row(self):
        self.bad_at(2, "words a", "x", "y", "")
        self.bad_at(2, "words a", "all 1 1", "x")
        self.bad_at(3, "words a", "ring", "bar b", "x")
        self.bad_at(3, "words a", "ring", "x", "bar b")
        self.bad_at(1, "bar a", "x", "words a")
        self.bad_at(1, "x", "bar a")
        self.bad_at(5, "words a", "words b", "bar c", "ring", "words d", "bar e", "x")

    def test_far_rows(self):
        rows = ["words a"] + ["ring"] * 3000
        for at in (2, 1000, 3001):
            self.bad_at(at, *(rows[:at - 1] + ["x"] + rows[at:]))

    def test_every_order_of_three_and_four_rows(self):
        kinds = {"all 1 2": "all", "words a": "words", "bar b": "bar", "ring": "ask", "x": "none", "words b": "words"}
        for size in (1, 2, 3, 4):
            for rows in itertools.product(kinds, repeat=size):
                at = slow_bad_row([kinds[row] for row in rows])
                if at is not None:
                    self.bad_at(at, *rows)
                else:
                    told = [row for row in rows if row != "bar b"]
                    words = ["a", "b"] if rows[0] == "all 1 2" else [row[-1] for row in told if row != "ring"]
                    kept = [word for word in words if "bar b" not in rows or word == "a"]
                    if len(set(kept)) == len(kept) > 0:
                        self.reads(page(*rows), kept, ["ring"] * rows.count("ring"))
                    else:
                        self.page_refused(BadWord, page(*rows))


def slow_bad_row(kinds):
    """The number of the first row that is none of those told or not at its place, rule by rule."""
    for place, kind in enumerate(kinds):
        ahead = kinds[:place]
        webs = [other for other in ahead if other in ("all", "words")]
        wrong = kind == "none"
        wrong = wrong or (kind in ("bar", "ask") and not webs)
        wrong = wrong or (kind in ("all", "words") and ("bar" in ahead or "ask" in ahead))
        wrong = wrong or (kind in ("all", "words") and webs != [] and webs[0] != kind)
        wrong = wrong or (kind == "all" and "all" in ahead)
        wrong = wrong or (kind == "bar" and "ask" in ahead)
        if wrong:
            return place + 1
    return None


class Refused(Case):
    """What is refused behind BadText, of point 11.4."""

    def test_all_with_wrong_kinds(self):
        for kinds in ("0", "7", "8", "26", MOST):
            for length in ("0", "1", "3", "8", "9", "24", MOST):
                self.page_refused(BadKinds, f"all {length} {kinds}")
                self.page_refused(BadKinds, f"all {length} {kinds}\nbar a\nring")

    def test_all_with_wrong_lengths(self):
        for kinds in range(1, 7):
            for length in ("0", "9", "10", "24", "25", MOST):
                self.page_refused(BadWord, f"all {length} {kinds}")
                self.page_refused(BadWord, f"all {length} {kinds}\nbar a\nring")

    def test_all_with_too_many(self):
        for kinds in range(1, 7):
            for length in range(1, 9):
                if kinds ** length > 64:
                    self.page_refused(TooMany, f"all {length} {kinds}")
                    # Though a bar would leave out all but some, or all of them.
                    self.page_refused(TooMany, f"all {length} {kinds}\nbar a\nbar b\nring")
                    self.page_refused(TooMany, page(f"all {length} {kinds}", *["bar " + sign for sign in "abcdef"]))
                else:
                    self.reads(f"all {length} {kinds}", texts_of(length, kinds), [])

    def test_bad_text_goes_first(self):
        for told in ("all 1 7", "all 9 2", "all 8 6", "words a a", "words a ab", "words " + "a" * 9,
                     "words " + " ".join(texts_of(4, 3))):
            self.bad_at(2, told, "x")
            self.bad_at(3, told, "ring", "")
            self.bad_at(3, told, "ring", "bar a")
            self.bad_at(2, told, "all 1 1")

    def test_no_word_is_left(self):
        self.page_refused(BadWord, "all 2 2\nbar a\nbar b")
        self.page_refused(BadWord, "words a\nbar a")
        self.page_refused(BadWord, "words ab\nwords ba\nbar a\nring")

    def test_a_text_told_twice(self):
        self.page_refused(BadWord, "words a a")
        self.page_refused(BadWord, "words a\nwords a")
        self.page_refused(BadWord, "words ab ba bc ab\nring")
        # Twice too many for a web, though there are but 33 unlike ones.
        words = texts_of(6, 2)[:33]
        self.page_refused(TooMany, page("words " + " ".join(words), "words " + " ".join(words[:32])))
        self.page_refused(BadWord, page("words " + " ".join(words), "words " + " ".join(words[:31])))

    def test_unlike_lengths_and_long_words(self):
        self.page_refused(BadWord, "words a ab")
        self.page_refused(BadWord, "words ab\nwords abc\nring")
        self.page_refused(BadWord, "words " + "a" * 9)
        self.page_refused(BadWord, "words " + "a" * 8 + " " + "a" * 9)
        self.page_refused(BadWord, "words ab " + "b" * 200)
        self.reads("words " + "a" * 8, ["a" * 8], [])

    def test_too_many_words(self):
        words = texts_of(4, 3)
        self.reads("words " + " ".join(words[:64]), words[:64], [])
        self.page_refused(TooMany, "words " + " ".join(words[:65]))
        self.page_refused(TooMany, page(*["words " + word for word in words]))
        # Too many goes ahead of words that are none of a web.
        self.page_refused(TooMany, page("words " + " ".join(words[:64]), "words a"))
        self.page_refused(TooMany, page("words " + " ".join(["a"] * 65)))
        self.page_refused(BadWord, page("words " + " ".join(["a"] * 64)))

    def test_words_that_a_bar_leaves_out_are_not_looked_at(self):
        self.reads("words ab ba c\nbar c", ["ab", "ba"], [])
        self.reads("words ab ba ccc cc cc\nbar c", ["ab", "ba"], [])
        self.reads("words ab ba " + "ab" * 100 + "\nbar aba", ["ab", "ba"], [])
        self.reads("words ab ac ac ba\nbar ac", ["ab", "ba"], [])
        words = texts_of(4, 3)
        kept = [word for word in words if "c" not in word]
        self.reads("words " + " ".join(words) + "\nbar c\nring", kept, ["ring"])
        barred = [word for word in words if "c" in word]
        self.reads(page("words abab", *["words " + word for word in barred + barred], "bar c"), ["abab"], [])
        self.page_refused(TooMany, page("words abab", *["words " + word for word in barred + barred]))

    def test_whatever_is_asked(self):
        for ask in ASKS:
            self.page_refused(BadWord, page("words a a", ask))
            self.page_refused(TooMany, page("all 7 2", ask))


class Own(Case):
    def test_told_lists_are_the_askers_own(self):
        text = "all 2 2\nring\nrows"
        first, second = read_page(text), read_page(text)
        first[1].clear()
        self.assertEqual(second[1], [("ring",), ("rows",)])
        self.assertEqual(read_page(text)[1], [("ring",), ("rows",)])
        told = answers(text)
        told.append("z")
        told[0] = "y"
        self.are_texts(answers(text), ["aabb", "4"])

    def test_what_is_handed_in_stays(self):
        web, asks = Web(["ba", "ab"]), [("ring",), ("lead", "ab", "ab")]
        text = page_text(web, asks)
        self.assertEqual(asks, [("ring",), ("lead", "ab", "ab")])
        self.assertEqual((web.words, web.length), (("ab", "ba"), 2))
        asks.append(("row",))
        self.is_text(text, "words ab ba\nring\nlead ab ab")
        for ask in ASKS:
            answered(web, tuple(ask.split(" ")))
        self.assertEqual((web.words, web.length), (("ab", "ba"), 2))

    def test_the_refusals_that_answers_take_stay_refusals(self):
        for refusal in (NotOne, NoSuch, TooMany, BadWord, BadKinds, NoRing, BadText):
            self.assertEqual(refusal.__bases__, (OnceError,))


if __name__ == "__main__":
    unittest.main()
