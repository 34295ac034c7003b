"""A desk: it is told rows of words and numbers, and answers each by a text."""

from topstretch.errors import NoCount, NoneYet, NoRound, NoShape, NoText
from topstretch.halves import best_in, best_round, changed, kept, many_of, row_of
from topstretch.must import must_be
from topstretch.papers import several_paper
from topstretch.several import best_apart, room_for
from topstretch.sized import best_sized
from topstretch.texts import are_figures, is_number, read_row, shown_row

MOST_FIGURES = 6
MOST_PAIRS = 20

# By the word that asks: how many numbers stand behind it. Of put it is pairs,
# and what stands behind row, if anything, is a text.
NUMBERS_BEHIND = {
    "row": 0,
    "undo": 0,
    "again": 0,
    "best": 0,
    "part": 2,
    "length": 2,
    "ring": 0,
    "apart": 2,
    "bars": 2,
    "must": 1,
}


def read_text(text):
    try:
        return read_row(text)
    except NoText:
        raise NoShape("no text of a row behind the word row") from None


def read_figures(word):
    if not are_figures(word, MOST_FIGURES):
        raise NoShape("not a number of one to six figures")
    return int(word)


def read_number(word):
    if not is_number(word):
        raise NoShape("not a number")
    return int(word)


def read_changes(words):
    if not 2 <= len(words) <= 2 * MOST_PAIRS or len(words) % 2 != 0:
        raise NoShape("not one to twenty pairs")
    return [(read_figures(words[turn]), read_number(words[turn + 1])) for turn in range(0, len(words), 2)]


def read_behind(word, words):
    if word == "put":
        return read_changes(words)
    if NUMBERS_BEHIND.get(word) != len(words):
        raise NoShape("no such word, or not so many numbers behind it")
    return [read_figures(one) for one in words]


def with_stretches(told):
    if told is None:
        return None
    numbers = [told[0]]
    for stretch in told[1]:
        numbers.extend(stretch)
    return numbers


def bars(row, many, gap):
    # Looked at ahead of the paper, which would be of so many lists.
    if many > room_for(len(row), gap):
        raise NoCount("there isn't room for so many stretches")
    return several_paper(row, many, gap)[many][len(row)]


def answer_of(held, word, numbers):
    if word == "best":
        return list(best_in(held, (0, many_of(held))))
    if word == "part":
        return list(best_in(held, (numbers[0], numbers[1])))
    if word == "length":
        return list(best_sized(row_of(held), numbers[0], numbers[1]))
    if word == "ring":
        return list(best_round(held))
    if word == "apart":
        return with_stretches(best_apart(row_of(held), numbers[0], numbers[1]))
    if word == "bars":
        return [bars(row_of(held), numbers[0], numbers[1])]
    if word == "must":
        least = must_be(held, numbers[0])
        return None if least is None else [least]
    return row_of(held)


def shown_answer(answer):
    return "none" if answer is None else shown_row(answer)


def best_sum(held):
    return shown_row([best_in(held, (0, many_of(held)))[0]])


class Desk:
    def __init__(self):
        self.held = None
        # Kept rows: what stood ahead of each round that stands, and what stood
        # behind each undone one.
        self.earlier = []
        self.undone = []

    def say(self, row):
        words = row.split(" ")
        word = words[0]
        if word == "row" and len(words) > 1:
            return self.lay(read_text(row[len("row "):]))
        behind = read_behind(word, words[1:])
        if self.held is None:
            raise NoneYet("there is no row yet")
        if word == "put":
            return self.put(behind)
        if word == "undo":
            return self.undo()
        if word == "again":
            return self.redo()
        return shown_answer(answer_of(self.held, word, behind))

    def lay(self, row):
        self.held = kept(row)
        self.earlier = []
        self.undone = []
        return shown_row([len(row)])

    def put(self, changes):
        # What may be refused comes first: then nothing is changed by it.
        now = changed(self.held, changes)
        self.earlier.append(self.held)
        self.undone = []
        self.held = now
        return best_sum(now)

    def undo(self):
        if not self.earlier:
            raise NoRound("no round stands")
        self.undone.append(self.held)
        self.held = self.earlier.pop()
        return best_sum(self.held)

    def redo(self):
        if not self.undone:
            raise NoRound("no round is undone")
        self.earlier.append(self.held)
        self.held = self.undone.pop()
        return best_sum(self.held)
