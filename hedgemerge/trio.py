"""The object that the calls are made on: a base and two versions."""

from hedgemerge.errors import NoVersion, TooManyNodes
from hedgemerge.merger import Outcome
from hedgemerge.reader import read_hedge
from hedgemerge.script import told_script
from hedgemerge.tree import hedge_size, same_hedge

MOST_HELD_NODES = 200


def check_version(number):
    if number not in (1, 2):
        raise NoVersion()


def check_size(hedge):
    if hedge_size(hedge) > MOST_HELD_NODES:
        raise TooManyNodes()


def held_hedge(text):
    hedge = read_hedge(text)
    check_size(hedge)
    return hedge


class Trio:
    """hedges[0] is the base, hedges[1] and hedges[2] are the versions.

    scripts[(k, l)] is the told script from hedges[k] to hedges[l], kept until one of the two is another hedge, as it
    is dear to make.
    """

    def __init__(self):
        self.hedges = [[], [], []]
        self.scripts = {}

    def set_all(self, hedge):
        self.hedges = [hedge, hedge, hedge]
        self.scripts = {}
        return hedge_size(hedge)

    def set_version(self, number, hedge):
        if not same_hedge(self.hedges[number], hedge):
            self.hedges[number] = hedge
            self.forget_scripts(number)
        return hedge_size(hedge)

    def forget_scripts(self, number):
        kept = {}
        for ends in self.scripts:
            if number not in ends:
                kept[ends] = self.scripts[ends]
        self.scripts = kept

    def script(self, one, other):
        ends = (one, other)
        if ends not in self.scripts:
            self.scripts[ends] = told_script(self.hedges[one], self.hedges[other])
        return self.scripts[ends]

    def outcome(self, number):
        """The outcome if the version of this number prevails."""
        return Outcome(self.script(0, number), self.script(0, 3 - number))

    def held_outcome(self, number):
        """The outcome's hedge, which is to become a base or a version."""
        hedge = self.outcome(number).hedge
        check_size(hedge)
        return hedge
