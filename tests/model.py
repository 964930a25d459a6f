"""The object that calls are made on, after the document's words. Each method gives back a call and its answer."""

import calling
import oracle

NO_HEDGE = -1
NO_VERSION = -2
NO_NODE = -4
TOO_MANY = -5

# Texts that tell no hedge to hold, by what is answered to them.
REFUSED_TEXTS = {NO_HEDGE: "a(b", TOO_MANY: "a " * 201}


def is_version(number):
    return number in (1, 2)


def counted(text):
    return [len(text)] + calling.as_bytes(text)


class Model:

    def __init__(self):
        self.hedges = [(), (), ()]

    def outcome(self, number):
        return oracle.outcome(*self.hedges, number)

    def hedge_answer(self, hedge, places):
        """hedge: a hedge, or the refusal that its text is to meet."""
        if hedge in REFUSED_TEXTS:
            return [hedge]
        if oracle.size(hedge) > 200:
            return [TOO_MANY]
        for place in places:
            self.hedges[place] = hedge
        return [oracle.size(hedge)]

    def base(self, hedge):
        return calling.base(hedge_text(hedge)), self.hedge_answer(hedge, (0, 1, 2))

    def version(self, number, hedge):
        answer = self.hedge_answer(hedge, (number,)) if is_version(number) else [NO_VERSION]
        return calling.version(number, hedge_text(hedge)), answer

    def form(self, number):
        answer = counted(oracle.form(self.hedges[number])) if number in (0, 1, 2) else [NO_VERSION]
        return calling.form(number), answer

    def merge(self, number):
        answer = [NO_VERSION]
        if is_version(number):
            hedge, conflicts = self.outcome(number)
            answer = [len(conflicts)] + counted(oracle.form(hedge))
        return calling.merge(number), answer

    def conflicts(self):
        hedge, conflicts = self.outcome(2)
        answer = [len(conflicts)]
        for kind, path in conflicts:
            answer += [kind, len(path)] + path
        return calling.conflicts(), answer

    def did(self, number):
        answer = oracle.tally(self.hedges[0], self.hedges[number]) if is_version(number) else [NO_VERSION]
        return calling.did(number), answer

    def fate(self, number, path):
        answer = [NO_VERSION]
        if is_version(number):
            answer = oracle.fate(self.hedges[0], self.hedges[number], path) or [NO_NODE]
        return calling.fate(number, path), answer

    def distances(self):
        old, one, two = self.hedges
        return calling.distances(), [oracle.distance(old, one), oracle.distance(old, two), oracle.distance(one, two)]

    def take(self, taker, number):
        answer = [NO_VERSION]
        if is_version(taker) and is_version(number):
            answer = self.hedge_answer(self.outcome(number)[0], (taker,))
        return calling.take(taker, number), answer

    def settle(self, number):
        answer = self.hedge_answer(self.outcome(number)[0], (0, 1, 2)) if is_version(number) else [NO_VERSION]
        return calling.settle(number), answer


def hedge_text(hedge):
    return REFUSED_TEXTS[hedge] if hedge in REFUSED_TEXTS else oracle.form(hedge)
