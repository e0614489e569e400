"""Builds lists of calls, and parts what is answered."""

from treatytable.desk import answers

CLEAR = [0]
PRINT = [4]
PREVIEW = [6]
JUDGE = [7]
FIRST = [9]
FACTS = [12]
NOW = [13]

POWERS = ("Austria", "Britain", "France")
PROVINCES = ("Paris", "Vienna", "London", "Burgundy")


def numbers(text):
    return list(text.encode("latin-1")) if isinstance(text, str) else list(text)


def row(text):
    return [len(numbers(text))] + numbers(text)


def power(name):
    return [1] + row(name)


def province(name):
    return [2] + row(name)


def read(text):
    return [3] + row(text)


def fact(power_number, kind, a, b=0):
    return [5, power_number, kind, a, b]


def verdict(season):
    return [8, season]


def blame(power_number):
    return [10, power_number]


def pact(number):
    return [11, number]


def names():
    """The calls that give a table the powers and provinces above."""
    return [power(name) for name in POWERS] + [province(name) for name in PROVINCES]


def parted(given):
    parts = []
    place = 0
    while place < len(given):
        size = given[place]
        parts.append(given[place + 1:place + 1 + size])
        if len(parts[-1]) != size or size < 1:
            raise AssertionError("an answer is not as long as told")
        place += 1 + size
    return parts


def run(calls):
    """Carry out the calls, each a list, and give each one's answer as a list."""
    flat = [number for call in calls for number in call]
    given = answers(flat)
    if type(given) is not list or any(type(number) is not int for number in given):
        raise AssertionError("not a list of whole numbers")
    parts = parted(given)
    if len(parts) != len(calls):
        raise AssertionError("not one answer for each call")
    return parts


def run_named(calls):
    """The same on a table with the names above; their answers are left out."""
    return run(names() + calls)[len(names()):]


def printed(text):
    """What print answers where these bytes are printed."""
    return row(text)
