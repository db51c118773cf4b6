"""Replay: the deeds of a book, done in order on a new lathe."""

from threadlathe.errors import LatheError
from threadlathe.lathe import Lathe


def do_deed(lathe, word, what):
    if word == "mount":
        lathe.mount(what)
    elif word == "turn":
        lathe.turn(what)
    elif word == "wait":
        lathe.wait()
    elif word == "close":
        lathe.close_nut()
    elif word == "open":
        lathe.open_nut()
    elif word == "move":
        lathe.move(what)
    elif word == "cut":
        lathe.cut(what)
    else:
        raise LatheError("a book tells no such deed")


def replay(wheels, teeth, deeds):
    lathe = Lathe(wheels, teeth)
    for deed in deeds:
        do_deed(lathe, deed[0], deed[1])
    return lathe
