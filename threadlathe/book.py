"""The book: the good deeds in their order, each with what stood before it, so that it can be taken back."""

from threadlathe.errors import BookFull, NothingDone

MOST_DEEDS = 100


class Book:
    def __init__(self):
        self.entries = []

    def write(self, word, what, before):
        if len(self.entries) >= MOST_DEEDS:
            raise BookFull("the book holds 100 deeds already")
        self.entries.append(((word, what), before))

    def strike_last(self):
        if len(self.entries) == 0:
            raise NothingDone("the book holds no deed to take back")
        return self.entries.pop()[1]

    def deeds(self):
        return [entry[0] for entry in self.entries]
