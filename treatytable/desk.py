"""The calls on a table: how they lie in one list, and what each answers."""

from treatytable.judging import verdicts_now
from treatytable.names import are_bytes, is_name, text_of
from treatytable.past import broken_cases, cases_of, first_season
from treatytable.printing import printed
from treatytable.reading import Reading
from treatytable.table import (
    FIRST_SEASON, LAST_SEASON, MOST_FACTS, MOST_POWERS, MOST_PROMISES, MOST_PROVINCES, OWN, SUPPORT_MOVE, Table,
)

OUT_OF_RANGE = -1
FULL = -2
WRONG_FORM = -3
THERE_ALREADY = -4
NEVER_JUDGED = -5
NOT_JUDGED = -6

MOST_NAME_BYTES = 40
MOST_TEXT_BYTES = 2000
MOST_WRONG_LINES = 20


class Cursor:
    """A place in the list of calls, which is only read."""

    def __init__(self, numbers):
        self.numbers = numbers
        self.at = 0

    def is_through(self):
        return self.at == len(self.numbers)

    def take_one(self):
        self.at += 1
        return self.numbers[self.at - 1]

    def take_row(self):
        size = self.take_one()
        self.at += size
        return self.numbers[self.at - size:self.at]


def row_answer(row):
    return [len(row)] + row


def answer_clear(table, cursor):
    table.begin()
    return [0]


def add_name(table, names, most, name):
    """Put a name behind the names, which are the table's powers or its provinces."""
    if not are_bytes(name, MOST_NAME_BYTES):
        return [OUT_OF_RANGE]
    if not is_name(name):
        return [WRONG_FORM]
    text = text_of(name)
    if text in table.powers or text in table.provinces:
        return [THERE_ALREADY]
    if len(names) == most:
        return [FULL]
    names.append(text)
    return [len(names) - 1]


def answer_power(table, cursor):
    return add_name(table, table.powers, MOST_POWERS, cursor.take_row())


def answer_province(table, cursor):
    return add_name(table, table.provinces, MOST_PROVINCES, cursor.take_row())


def wrong_answer(wrong):
    told = wrong[:MOST_WRONG_LINES]
    answer = [1, len(told)]
    for line, error in told:
        answer.append(line)
        answer.append(error)
    return answer


def answer_read(table, cursor):
    text = cursor.take_row()
    if not are_bytes(text, MOST_TEXT_BYTES):
        return [OUT_OF_RANGE]
    reading = Reading(text, table)
    if len(reading.wrong) > 0:
        return wrong_answer(reading.wrong)
    if len(table.promises) + len(reading.promises) > MOST_PROMISES:
        return [FULL]
    table.promises.extend(reading.promises)
    return [0, len(table.promises)]


def answer_print(table, cursor):
    return row_answer(printed(table))


def is_fact_in_range(table, power, kind, provinces):
    if not 0 <= power < len(table.powers) or not 0 <= kind <= OWN:
        return False
    return all([0 <= province < len(table.provinces) for province in provinces])


def answer_fact(table, cursor):
    power = cursor.take_one()
    kind = cursor.take_one()
    province = cursor.take_one()
    second = cursor.take_one()
    if not is_fact_in_range(table, power, kind, (province, second)):
        return [OUT_OF_RANGE]
    if kind != SUPPORT_MOVE and second != 0:
        return [WRONG_FORM]
    fact = (power, kind, province, second)
    if fact in table.facts:
        return [THERE_ALREADY]
    if len(table.facts) == MOST_FACTS:
        return [FULL]
    table.facts[fact] = True
    return [len(table.facts)]


def answer_preview(table, cursor):
    return row_answer(verdicts_now(table))


def answer_judge(table, cursor):
    season = table.season
    if season == LAST_SEASON:
        return [NEVER_JUDGED]
    verdicts = verdicts_now(table)
    table.end_season(verdicts)
    return [season] + row_answer(verdicts)


def answer_verdict(table, cursor):
    season = cursor.take_one()
    if not FIRST_SEASON <= season <= LAST_SEASON:
        return [OUT_OF_RANGE]
    if season >= table.season:
        return [NOT_JUDGED]
    return row_answer(table.judged[season - FIRST_SEASON])


def answer_first(table, cursor):
    cases = broken_cases(table)
    season = first_season(cases)
    return [season] + row_answer([case[1] for case in cases if case[0] == season])


def answer_blame(table, cursor):
    power = cursor.take_one()
    if not 0 <= power < len(table.powers):
        return [OUT_OF_RANGE]
    cases = cases_of(table, power)
    return [first_season(cases), len(cases)]


def promise_answer(promise):
    answer = [promise.power, promise.negated]
    answer.extend(promise.deed)
    answer.extend([promise.since, promise.till, len(promise.conditions)])
    for condition in promise.conditions:
        answer.extend(condition)
    return answer


def answer_pact(table, cursor):
    number = cursor.take_one()
    if not 1 <= number <= len(table.promises):
        return [OUT_OF_RANGE]
    return promise_answer(table.promises[number - 1])


def answer_facts(table, cursor):
    answer = [len(table.facts)]
    for fact in sorted(table.facts):
        answer.extend(fact)
    return answer


def answer_now(table, cursor):
    return [table.season, len(table.promises), len(table.facts)]


# A call's number is its place here.
CALLS = (
    answer_clear,
    answer_power,
    answer_province,
    answer_read,
    answer_print,
    answer_fact,
    answer_preview,
    answer_judge,
    answer_verdict,
    answer_first,
    answer_blame,
    answer_pact,
    answer_facts,
    answer_now,
)


def answers(calls):
    """Carry out the calls on a new table, and give what each answers behind how many numbers that is."""
    table = Table()
    cursor = Cursor(calls)
    given = []
    while not cursor.is_through():
        answer_call = CALLS[cursor.take_one()]
        given.extend(row_answer(answer_call(table, cursor)))
    return given
