"""What's broken, for sure or perhaps, in the season that goes on.

Sets of promises are dicts from their numbers, which begin with 1, to True.
"""

from treatytable.table import BROKEN, KEPT

IDLE_VERDICT = 0
KEPT_VERDICT = 1
BROKEN_VERDICT = 2
OPEN_VERDICT = 3


def union(some, others):
    both = dict(some)
    both.update(others)
    return both


def judged_as(judged, wanted):
    """Give the promises that had one of the wanted verdicts in a season judged."""
    found = {}
    for row in judged:
        for number, verdict in enumerate(row, start=1):
            if verdict in wanted:
                found[number] = True
    return found


def is_in_time(promise, season):
    return promise.since <= season <= promise.till


def is_fact(facts, power, deed):
    return (power, deed[0], deed[1], deed[2]) in facts


def is_done(promise, facts):
    return is_fact(facts, promise.power, promise.deed) != (promise.negated == 1)


def holds(condition, facts, not_kept, broken):
    if condition[0] == KEPT:
        return condition[1] not in not_kept
    if condition[0] == BROKEN:
        return condition[1] in broken
    return is_fact(facts, condition[1], condition[3:]) != (condition[2] == 1)


def is_bound(promise, facts, not_kept, broken):
    return all([holds(condition, facts, not_kept, broken) for condition in promise.conditions])


def breakable_now(table):
    """Give the promises that are in time and not done, by their numbers: no other can be broken now."""
    found = {}
    for number, promise in enumerate(table.promises, start=1):
        if is_in_time(promise, table.season) and not is_done(promise, table.facts):
            found[number] = promise
    return found


class Judgement:
    """What's broken in the season that goes on and what was before, for sure and perhaps."""

    def __init__(self, table):
        self.season = table.season
        self.facts = table.facts
        self.breakable = breakable_now(table)
        self.sure_before = judged_as(table.judged, (BROKEN_VERDICT,))
        self.possible_before = judged_as(table.judged, (BROKEN_VERDICT, OPEN_VERDICT))
        self.sure = {}
        self.possible = self.find_most()
        self.settle()

    def find_most(self):
        return self.find_least(union(self.sure, self.sure_before), self.possible_before)

    def find_fewest(self):
        return self.find_least(union(self.possible, self.possible_before), self.sure_before)

    def find_least(self, not_kept, broken_before):
        """Give the least set of promises broken now, where one that's broken may bind another."""
        found = {}
        broken = dict(broken_before)
        grows = True
        while grows:
            grows = False
            for number, promise in self.breakable.items():
                if number not in found and is_bound(promise, self.facts, not_kept, broken):
                    found[number] = True
                    broken[number] = True
                    grows = True
        return found

    def settle(self):
        # The most follows from what's sure alone: once that stays, both stay.
        fewest = self.find_fewest()
        while fewest != self.sure:
            self.sure = fewest
            self.possible = self.find_most()
            fewest = self.find_fewest()

    def is_bound_for_sure(self, promise):
        not_kept = union(self.possible, self.possible_before)
        broken = union(self.sure, self.sure_before)
        return is_bound(promise, self.facts, not_kept, broken)

    def verdict_of(self, number, promise):
        if number in self.sure:
            return BROKEN_VERDICT
        if number in self.possible:
            return OPEN_VERDICT
        if is_in_time(promise, self.season) and self.is_bound_for_sure(promise):
            return KEPT_VERDICT
        return IDLE_VERDICT


def verdicts_now(table):
    """Give the verdict of each promise by the facts that there are now."""
    judgement = Judgement(table)
    return [judgement.verdict_of(number, promise) for number, promise in enumerate(table.promises, start=1)]
