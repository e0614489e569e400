"""Reads the text of a treaty: its lines, their promises and their errors."""

from treatytable.names import are_printable, text_of
from treatytable.table import (
    BROKEN, DOES, ENTER, FIRST_SEASON, HOLD, KEPT, LAST_SEASON, MOST_CONDITIONS, MOST_PROMISES, OWN,
    SUPPORT, SUPPORT_MOVE, Promise,
)

LINE_END = 10
BLANK = 32
REMARK = 35
MOST_DIGITS = 3
KINDS = {"enter": ENTER, "support": SUPPORT, "hold": HOLD, "own": OWN}


class WrongWord(Exception):
    """A byte or a word may not stand where it stands, or a word is missing."""


class NoPower(Exception):
    """A word where a power has to stand is no power's name."""


class NoProvince(Exception):
    """A word where a province has to stand is no province's name."""


class WrongNumber(Exception):
    """A word where a number has to stand isn't such a number."""


class TooManyConditions(Exception):
    """An and stands behind the last condition that a promise may have."""


class Words:
    """The words of a line, taken from the left to the right."""

    def __init__(self, words):
        self.words = words
        self.place = 0

    def is_ended(self):
        return self.place == len(self.words)

    def take(self):
        if self.is_ended():
            raise WrongWord()
        self.place += 1
        return self.words[self.place - 1]

    def skip(self, word):
        """Take the next word if it's this one, and tell whether it is."""
        if self.is_ended() or self.words[self.place] != word:
            return False
        self.place += 1
        return True


def take_negated(words):
    return 1 if words.skip("not") else 0


def known_power(word, words, table):
    # More has to stand behind a power, and that it's missing counts before the name.
    if words.is_ended():
        raise WrongWord()
    if word not in table.powers:
        raise NoPower()
    return table.powers.index(word)


def take_province(words, table):
    word = words.take()
    if word not in table.provinces:
        raise NoProvince()
    return table.provinces.index(word)


def take_number(words, most):
    word = words.take()
    if not word.isdigit() or len(word) > MOST_DIGITS or word.startswith("0"):
        raise WrongNumber()
    number = int(word)
    if number > most:
        raise WrongNumber()
    return number


def take_deed(words, table):
    verb = words.take()
    if verb not in KINDS:
        raise WrongWord()
    province = take_province(words, table)
    if verb == "support" and words.skip("to"):
        return (SUPPORT_MOVE, province, take_province(words, table))
    return (KINDS[verb], province, 0)


def take_seasons(words):
    if not words.skip("in"):
        return (FIRST_SEASON, LAST_SEASON)
    since = take_number(words, LAST_SEASON)
    if not words.skip("to"):
        return (since, since)
    till = take_number(words, LAST_SEASON)
    if till < since:
        raise WrongNumber()
    return (since, till)


def take_condition(words, table, most):
    word = words.take()
    if word == "kept":
        return (KEPT, take_number(words, most), 0, 0, 0, 0)
    if word == "broken":
        return (BROKEN, take_number(words, most), 0, 0, 0, 0)
    power = known_power(word, words, table)
    if not words.skip("does"):
        raise WrongWord()
    negated = take_negated(words)
    return (DOES, power, negated) + take_deed(words, table)


def take_conditions(words, table, most):
    if not words.skip("if"):
        return []
    conditions = [take_condition(words, table, most)]
    while words.skip("and"):
        if len(conditions) == MOST_CONDITIONS:
            raise TooManyConditions()
        conditions.append(take_condition(words, table, most))
    return conditions


def take_promise(words, table, most):
    power = known_power(words.take(), words, table)
    if not words.skip("will"):
        raise WrongWord()
    negated = take_negated(words)
    deed = take_deed(words, table)
    seasons = take_seasons(words)
    conditions = take_conditions(words, table, most)
    if not words.is_ended():
        raise WrongWord()
    return Promise(power, negated, deed, seasons, conditions)


def lines_of(text):
    lines = []
    line = []
    for number in text:
        if number == LINE_END:
            lines.append(line)
            line = []
        else:
            line.append(number)
    lines.append(line)
    return lines


def says_something(line):
    for number in line:
        if number != BLANK:
            return number != REMARK
    return False


def read_line(line, table, most, promises):
    """Put the line's promise, if it says one, behind the promises."""
    if not are_printable(line):
        raise WrongWord()
    if says_something(line):
        promises.append(take_promise(Words(text_of(line).split()), table, most))


def line_error(line, table, most, promises):
    """Read a line as read_line does, and give the number of its error, or 0."""
    try:
        read_line(line, table, most, promises)
    except WrongWord:
        return 1
    except NoPower:
        return 2
    except NoProvince:
        return 3
    except WrongNumber:
        return 4
    except TooManyConditions:
        return 5
    return 0


class Reading:
    """What a text says: its promises, and its wrong lines with their errors."""

    def __init__(self, text, table):
        lines = lines_of(text)
        said = len([line for line in lines if says_something(line)])
        most = min(len(table.promises) + said, MOST_PROMISES)
        self.promises = []
        self.wrong = []
        for number, line in enumerate(lines, start=1):
            error = line_error(line, table, most, self.promises)
            if error != 0:
                self.wrong.append((number, error))
