"""The table: its powers, provinces, promises, facts and verdicts.

A deed is a tuple of its kind, the province and the second province (0 if
there's none). A fact is a tuple of a power and the three numbers of a deed.
A condition is a tuple of six numbers: KEPT or BROKEN, the promise and four
zeros; or DOES, the power, 1 if it doesn't or else 0, and the deed's three.
"""

MOST_POWERS = 7
MOST_PROVINCES = 40
MOST_PROMISES = 24
MOST_CONDITIONS = 6
MOST_FACTS = 100
FIRST_SEASON = 1
LAST_SEASON = 100

ENTER = 0
SUPPORT = 1
SUPPORT_MOVE = 2
HOLD = 3
OWN = 4

KEPT = 0
BROKEN = 1
DOES = 2


class Promise:
    """What a power promises; nothing in it changes once it's made."""

    def __init__(self, power, negated, deed, seasons, conditions):
        self.power = power
        self.negated = negated
        self.deed = deed
        self.since = seasons[0]
        self.till = seasons[1]
        self.conditions = conditions


class Table:
    """All that is kept from one call to the next."""

    def __init__(self):
        self.begin()

    def begin(self):
        self.powers = []
        self.provinces = []
        self.promises = []
        self.season = FIRST_SEASON
        self.facts = {}
        # The row of season 1 is the first, and so on: seasons are judged one after another.
        self.judged = []

    def end_season(self, verdicts):
        """Keep the verdicts of the season that goes on, and let the next one begin."""
        self.judged.append(verdicts)
        self.season += 1
        self.facts = {}
