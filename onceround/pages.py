"""Stage 11: pages, which tell a web and asks, read, written and answered."""

from onceround.errors import BadKinds, BadText, BadWord, NoRing, NoSuch, NotOne, TooMany
from onceround.exchanges import led
from onceround.far import piece_at, place_of
from onceround.numbered import ring_by, ring_count, ring_number, row_by, row_count, row_number
from onceround.rings import is_ring, is_row, least_ring, least_row
from onceround.rules import looked_size
from onceround.webs import Web
from onceround.words import LETTERS, all_words

FIGURES = "0123456789"
MOST_FIGURES = 60
MOST_LETTERS = 200

# From the first word of each ask to the forms of what may stand behind it: n is a number, t a text.
ASKS = {
    "ring": ("", "n"),
    "row": ("", "n"),
    "rings": ("",),
    "rows": ("",),
    "number": ("t",),
    "lead": ("tt",),
    "piece": ("tnnn",),
    "place": ("tnt",),
}

# From each kind of row to the kinds of which one may stand straight ahead of it; top is ahead of the first row.
AHEAD = {
    "all": ("top",),
    "words": ("top", "words"),
    "bar": ("all", "words", "bar"),
    "ask": ("all", "words", "bar", "ask"),
}


def is_made_of(word, signs, most):
    return len(word) > 0 and len(word) <= most and all([sign in signs for sign in word])


def is_number(word):
    return is_made_of(word, FIGURES, MOST_FIGURES) and (word == "0" or word[0] != "0")


def is_text(word):
    return is_made_of(word, LETTERS, MOST_LETTERS)


def form_of(word):
    if is_number(word):
        return "n"
    return "t" if is_text(word) else "-"


# None for a row that is none of those of a page.
def kind_of(row):
    form = "".join([form_of(word) for word in row[1:]])
    if row[0] in ASKS and form in ASKS[row[0]]:
        return "ask"
    if row[0] == "all" and form == "nn":
        return "all"
    if row[0] == "bar" and form == "t":
        return "bar"
    if row[0] == "words" and form != "" and form == "t" * len(form):
        return "words"
    return None


def looked_rows(rows):
    ahead = "top"
    for number, row in enumerate(rows, start=1):
        kind = kind_of(row)
        if ahead not in AHEAD.get(kind, ()):
            raise BadText("the row is none of those of a page, or not at its place", number)
        ahead = kind


def told_words(rows):
    if rows[0][0] == "all":
        length = int(rows[0][1])
        kinds = int(rows[0][2])
        looked_size(length, kinds)
        return all_words(length, kinds)
    found = []
    for row in rows:
        if row[0] == "words":
            found.extend(row[1:])
    return found


def read_page(text):
    # A blank too many leaves an empty word behind, which is no part of any row.
    rows = [line.split(" ") for line in text.split("\n")]
    looked_rows(rows)
    bars = [row[1] for row in rows if row[0] == "bar"]
    kept = [word for word in told_words(rows) if not any([bar in word for bar in bars])]
    return (Web(kept), [tuple(row) for row in rows if row[0] in ASKS])


def page_text(web, asks):
    rows = [("words",) + web.words] + list(asks)
    return "\n".join([" ".join(row) for row in rows])


def paper_text(paper):
    return " ".join(["none", paper[0]] + ["-" if piece == "" else piece for piece in paper[1]])


def least_told(web, kind):
    try:
        return least_ring(web) if kind == "ring" else least_row(web)
    except NoRing as refusal:
        return paper_text(refusal.paper)


def one_told(web, kind, number):
    try:
        return ring_by(web, number) if kind == "ring" else row_by(web, number)
    except NoSuch:
        return "no such"


def numbers_told(web, text):
    found = []
    if is_ring(web, text):
        found.extend(["ring", str(ring_number(web, text))])
    if is_row(web, text):
        found.extend(["row", str(row_number(web, text))])
    return "neither" if found == [] else " ".join(found)


def deed_text(deed):
    return ":".join([str(place) for place in deed])


def lead_told(web, one, two):
    try:
        deeds = led(web, one, two)
    except NotOne:
        return "no ring"
    return "." if deeds == [] else " ".join([deed_text(deed) for deed in deeds])


def far_told(ask):
    kinds = int(ask[2])
    if ask[0] == "place":
        return str(place_of(ask[1], kinds, ask[3]))
    return piece_at(ask[1], kinds, int(ask[3]), int(ask[4]))


def far_or_refused(ask):
    try:
        return far_told(ask)
    except BadKinds:
        return "refused BadKinds"
    except BadWord:
        return "refused BadWord"
    except TooMany:
        return "refused TooMany"
    except NoSuch:
        return "refused NoSuch"


def answered(web, ask):
    if ask[0] == "piece" or ask[0] == "place":
        return far_or_refused(ask)
    if ask[0] == "lead":
        return lead_told(web, ask[1], ask[2])
    if ask[0] == "number":
        return numbers_told(web, ask[1])
    if ask[0] == "rings":
        return str(ring_count(web))
    if ask[0] == "rows":
        return str(row_count(web))
    if len(ask) == 2:
        return one_told(web, ask[0], int(ask[1]))
    return least_told(web, ask[0])


def answers(text):
    page = read_page(text)
    return [answered(page[0], ask) for ask in page[1]]
