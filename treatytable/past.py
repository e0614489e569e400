"""What the seasons judged tell of broken promises."""

from treatytable.judging import BROKEN_VERDICT
from treatytable.table import FIRST_SEASON


def broken_cases(table):
    """Give each case in which a promise is broken: the season and the promise's number, in the order of these."""
    cases = []
    for season, row in enumerate(table.judged, start=FIRST_SEASON):
        for number, verdict in enumerate(row, start=1):
            if verdict == BROKEN_VERDICT:
                cases.append((season, number))
    return cases


def cases_of(table, power):
    """Give the cases in which a promise of the power is broken."""
    return [case for case in broken_cases(table) if table.promises[case[1] - 1].power == power]


def first_season(cases):
    """Give the season of the first case, or 0 if there's none."""
    return cases[0][0] if len(cases) > 0 else 0
