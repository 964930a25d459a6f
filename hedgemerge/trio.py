"""The object that the calls are made on: a base and two versions."""

from hedgemerge.errors import NoVersion, TooManyNodes
from hedgemerge.merger import Outcome
from hedgemerge.reader import read_hedge
from hedgemerge.script import told_script
from hedgemerge.tree import hedge_size

MOST_HELD_NODES = 200


def check_version(number):
    if number not in (1, 2):
        raise NoVersion()


def check_size(hedge):
    if hedge_size(hedge) > MOST_HELD_NODES:
        raise TooManyNodes()


def held_hedge(text):
    hedge = read_hedge(text)
    check_size(hedge)
    return hedge


class Trio:
    """hedges[0] is the base. scripts[w] is kept until what it was made from is replaced, as it is dear to make."""

    def __init__(self):
        self.hedges = [[], [], []]
        self.scripts = [None, None, None]

    def set_all(self, hedge):
        self.hedges = [hedge, hedge, hedge]
        self.scripts = [None, None, None]
        return hedge_size(hedge)

    def set_version(self, number, hedge):
        self.hedges[number] = hedge
        self.scripts[number] = None
        return hedge_size(hedge)

    def script(self, number):
        if self.scripts[number] is None:
            self.scripts[number] = told_script(self.hedges[0], self.hedges[number])
        return self.scripts[number]

    def outcome(self, number):
        """The outcome if the version of this number prevails."""
        return Outcome(self.script(number), self.script(3 - number))
