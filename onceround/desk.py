"""Stage 11: a desk, which writes a ring of a web letter by letter."""

from onceround.errors import BadDeed, NoRing, NoSuch
from onceround.none import why_no_ring
from onceround.numbered import way_number, ways_on
from onceround.rings import can_go_on, without
from onceround.webs import Web, begin_of, end_of
from onceround.words import windows


class Desk:
    def __init__(self, web):
        paper = why_no_ring(web)
        if paper is not None:
            raise NoRing("the web has no ring", paper)
        self.web = Web(web.words)
        self.text = web.words[0]

    def written(self):
        return self.text

    def done(self):
        if self.left() != []:
            return None
        return self.text[:len(self.web.words)]

    def gone(self):
        return windows(self.text, self.web.length, False)

    def left(self):
        met = self.gone()
        return [word for word in self.web.words if word not in met]

    def home(self):
        return begin_of(self.web.words[0])

    def nexts(self):
        left = self.left()
        at = end_of(self.gone()[-1])
        behind = [word for word in left if begin_of(word) == at]
        return [word[-1] for word in behind if can_go_on(without(left, word), end_of(word))]

    def ways(self):
        return ways_on(self.left(), end_of(self.gone()[-1]), self.home())

    def ahead(self):
        # Every ring begins with the least word: what is counted is which word comes at each step behind it.
        return way_number(self.web.words[1:], self.gone()[1:], self.home())

    def write(self, letter):
        if letter not in self.nexts():
            raise BadDeed("this is no letter that can come")
        self.text = self.text + letter
        return True

    def back(self):
        if len(self.text) == self.web.length:
            raise NoSuch("nothing was written behind the least word")
        letter = self.text[-1]
        self.text = self.text[:-1]
        return letter
