"""Treaties drawn at random: their promises as values, the lines that say them, and what is to be answered of them.

A deed is (kind, province, second province); a condition is the six numbers
that pact tells; a fact is (power, kind, province, second province).
"""

from collections import namedtuple

Promise = namedtuple("Promise", "power negated deed since till conditions")

VERBS = ("enter", "support", "support", "hold", "own")


def some_deed(source, provinces):
    kind = source.randrange(5)
    return kind, source.randrange(provinces), source.randrange(provinces) if kind == 2 else 0


def some_condition(source, powers, provinces, most):
    if most > 0 and source.random() < 0.7:
        return source.randrange(2), source.randint(1, most), 0, 0, 0, 0
    return (2, source.randrange(powers), source.randrange(2)) + some_deed(source, provinces)


def some_seasons(source, latest):
    since = source.choice([1, 1, 1, source.randint(1, latest)])
    return since, source.choice([100, 100, since, source.randint(since, 100)])


def some_promise(source, powers, provinces, most, latest=4):
    """A promise whose conditions are on promises up to most, and whose first season is not behind the latest."""
    since, till = some_seasons(source, latest)
    conditions = [some_condition(source, powers, provinces, most) for place in range(source.choice([0, 1, 1, 1, 2, 2, 3, 6]))]
    return Promise(source.randrange(powers), source.choice([0, 0, 0, 1]), some_deed(source, provinces), since, till, conditions)


def in_pairs(source, promises):
    """The promises as rings of two, each bound if its partner is kept and, at times, by one more condition."""
    paired = []
    for place, promise in enumerate(promises):
        partner = min(place ^ 1, len(promises) - 1) + 1
        paired.append(promise._replace(conditions=[(0, partner, 0, 0, 0, 0)] + promise.conditions[:source.choice([0, 0, 1])]))
    return paired


def deed_text(negated, deed, provinces):
    kind, a, b = deed
    return ("not " if negated else "") + VERBS[kind] + " " + provinces[a] + (" to " + provinces[b] if kind == 2 else "")


def condition_text(condition, powers, provinces):
    if condition[0] < 2:
        return ("kept ", "broken ")[condition[0]] + str(condition[1])
    return powers[condition[1]] + " does " + deed_text(condition[2], condition[3:], provinces)


def line_of(promise, powers, provinces):
    """The line of the promise in the one form, without a line's end."""
    line = powers[promise.power] + " will " + deed_text(promise.negated, promise.deed, provinces)
    if (promise.since, promise.till) != (1, 100):
        line += " in " + str(promise.since)
        line += "" if promise.since == promise.till else " to " + str(promise.till)
    conditions = [condition_text(condition, powers, provinces) for condition in promise.conditions]
    return line + (" if " + " and ".join(conditions) if conditions else "")


def pact_of(promise):
    """What pact answers of the promise."""
    answer = [promise.power, promise.negated, *promise.deed, promise.since, promise.till, len(promise.conditions)]
    return answer + [number for condition in promise.conditions for number in condition]


def by_the_facts(promise, season, facts):
    """The promise as ByTheWords takes it: in time, done, and its conditions."""
    done = ((promise.power, *promise.deed) in facts) == (promise.negated == 0)
    conditions = []
    for condition in promise.conditions:
        if condition[0] < 2:
            conditions.append((("kept", "broken")[condition[0]], condition[1]))
        else:
            conditions.append(("deed", ((condition[1], *condition[3:]) in facts) == (condition[2] == 0)))
    return promise.since <= season <= promise.till, done, conditions
