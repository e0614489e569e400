"""The one form in which promises are printed."""

from treatytable.names import bytes_of
from treatytable.table import BROKEN, FIRST_SEASON, KEPT, LAST_SEASON, SUPPORT_MOVE

# By the kind of the deed.
VERBS = ("enter", "support", "support", "hold", "own")


def deed_words(table, negated, deed):
    words = ["not"] if negated == 1 else []
    words.append(VERBS[deed[0]])
    words.append(table.provinces[deed[1]])
    if deed[0] == SUPPORT_MOVE:
        words.append("to")
        words.append(table.provinces[deed[2]])
    return words


def season_words(promise):
    if promise.since == FIRST_SEASON and promise.till == LAST_SEASON:
        return []
    if promise.since == promise.till:
        return ["in", str(promise.since)]
    return ["in", str(promise.since), "to", str(promise.till)]


def condition_words(table, condition):
    if condition[0] == KEPT:
        return ["kept", str(condition[1])]
    if condition[0] == BROKEN:
        return ["broken", str(condition[1])]
    return [table.powers[condition[1]], "does"] + deed_words(table, condition[2], condition[3:])


def promise_words(table, promise):
    words = [table.powers[promise.power], "will"]
    words.extend(deed_words(table, promise.negated, promise.deed))
    words.extend(season_words(promise))
    for place, condition in enumerate(promise.conditions):
        words.append("if" if place == 0 else "and")
        words.extend(condition_words(table, condition))
    return words


def printed(table):
    """Give the bytes of all promises, line by line."""
    lines = [" ".join(promise_words(table, promise)) + "\n" for promise in table.promises]
    return bytes_of("".join(lines))
