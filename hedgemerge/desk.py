"""Calls in one list of numbers, and their answers in another."""

from hedgemerge.deeds import Tally, told_fate
from hedgemerge.errors import NoHedge, NoNode, NoVersion, TooManyNodes
from hedgemerge.trio import Trio, check_version, held_hedge
from hedgemerge.writer import hedge_form

NO_HEDGE = -1
NO_VERSION = -2
NO_NODE = -4
TOO_MANY_NODES = -5


class Cursor:
    """Goes through the list of calls, number by number and row by row."""

    def __init__(self, calls):
        self.calls = calls
        self.place = 0

    def at_end(self):
        return self.place == len(self.calls)

    def take_number(self):
        self.place += 1
        return self.calls[self.place - 1]

    def take_row(self):
        length = self.take_number()
        self.place += length
        return self.calls[self.place - length:self.place]


def counted(numbers):
    return [len(numbers)] + numbers


# A call takes all its numbers from the cursor before it may be refused, so that the next call is found.


def call_base(trio, cursor):
    return [trio.set_all(held_hedge(cursor.take_row()))]


def call_version(trio, cursor):
    version = cursor.take_number()
    text = cursor.take_row()
    check_version(version)
    return [trio.set_version(version, held_hedge(text))]


def call_form(trio, cursor):
    which = cursor.take_number()
    if which != 0:
        check_version(which)
    return counted(hedge_form(trio.hedges[which]))


def call_merge(trio, cursor):
    version = cursor.take_number()
    check_version(version)
    outcome = trio.outcome(version)
    return [len(outcome.conflicts)] + counted(hedge_form(outcome.hedge))


def call_conflicts(trio, cursor):
    # The conflicts are the same whichever version prevails.
    conflicts = trio.outcome(1).conflicts
    answer = [len(conflicts)]
    for conflict in conflicts:
        answer.append(conflict[0])
        answer.extend(counted(conflict[1]))
    return answer


def call_did(trio, cursor):
    version = cursor.take_number()
    check_version(version)
    tally = Tally(trio.script(0, version))
    return [tally.trees_put, tally.trees_dropped, tally.words_renewed, tally.trees_paired, tally.trees_alone]


def call_fate(trio, cursor):
    version = cursor.take_number()
    path = cursor.take_row()
    check_version(version)
    return told_fate(trio.script(0, version), path)


def call_distances(trio, cursor):
    return [trio.script(0, 1).cost, trio.script(0, 2).cost, trio.script(1, 2).cost]


def call_take(trio, cursor):
    taker = cursor.take_number()
    version = cursor.take_number()
    check_version(taker)
    check_version(version)
    return [trio.set_version(taker, trio.held_outcome(version))]


def call_settle(trio, cursor):
    version = cursor.take_number()
    check_version(version)
    return [trio.set_all(trio.held_outcome(version))]


CALLS = {
    0: call_base,
    1: call_version,
    2: call_form,
    3: call_merge,
    4: call_conflicts,
    5: call_did,
    6: call_fate,
    7: call_distances,
    8: call_take,
    9: call_settle,
}


def answer_call(trio, cursor):
    call = CALLS[cursor.take_number()]
    try:
        return call(trio, cursor)
    except NoHedge:
        return [NO_HEDGE]
    except NoVersion:
        return [NO_VERSION]
    except NoNode:
        return [NO_NODE]
    except TooManyNodes:
        return [TOO_MANY_NODES]


def answers(calls):
    answered = []
    trio = Trio()
    cursor = Cursor(calls)
    while not cursor.at_end():
        answered.extend(counted(answer_call(trio, cursor)))
    return answered
