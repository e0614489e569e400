"""pact."""

import unittest

from tests.helper import CLEAR, JUDGE, names, pact, read, run, run_named

AUSTRIA, BRITAIN, FRANCE = range(3)
PARIS, VIENNA, LONDON, BURGUNDY = range(4)

DEEDS = (
    ("enter Vienna", [0, VIENNA, 0]), ("support London", [1, LONDON, 0]), ("support Paris", [1, PARIS, 0]),
    ("support Vienna to Burgundy", [2, VIENNA, BURGUNDY]), ("support Burgundy to Paris", [2, BURGUNDY, PARIS]),
    ("support London to London", [2, LONDON, LONDON]), ("hold Burgundy", [3, BURGUNDY, 0]), ("own Paris", [4, PARIS, 0]),
)
SEASONS = (
    ("", [1, 100]), (" in 1 to 100", [1, 100]), (" in 1", [1, 1]), (" in 100", [100, 100]), (" in 37", [37, 37]),
    (" in 5 to 5", [5, 5]), (" in 2 to 9", [2, 9]), (" in 1 to 2", [1, 2]), (" in 99 to 100", [99, 100]),
)


def pact_of(line):
    """What pact tells of a line that's the only promise."""
    given = run_named([read(line), pact(1)])
    if given[0] != [0, 1]:
        raise AssertionError(given)
    return given[1]


class Pact(unittest.TestCase):
    def test_out_of_range(self):
        self.assertEqual(run([pact(0), pact(1), pact(-1)]), [[-1]] * 3)
        text = "France will own Paris\nFrance will own Paris"
        for number in (0, -1, 3, 24, 2 ** 63 - 1, -2 ** 63):
            self.assertEqual(run_named([read(text), pact(number), JUDGE, pact(number)])[1::2], [[-1], [-1]])

    def test_each_deed_with_and_without_not(self):
        for words, deed in DEEDS:
            self.assertEqual(pact_of("France will " + words), [FRANCE, 0] + deed + [1, 100, 0])
            self.assertEqual(pact_of("Britain will not " + words), [BRITAIN, 1] + deed + [1, 100, 0])

    def test_each_power(self):
        for number, name in enumerate(("Austria", "Britain", "France")):
            self.assertEqual(pact_of(name + " will own Vienna"), [number, 0, 4, VIENNA, 0, 1, 100, 0])

    def test_seasons(self):
        for words, seasons in SEASONS:
            self.assertEqual(pact_of("Austria will support Paris to London" + words), [AUSTRIA, 0, 2, PARIS, LONDON] + seasons + [0])
            self.assertEqual(pact_of("Austria will not hold London" + words + " if kept 1"),
                             [AUSTRIA, 1, 3, LONDON, 0] + seasons + [1, 0, 1, 0, 0, 0, 0])

    def test_conditions_on_promises(self):
        lines = ["France will own Paris if kept 3", "France will own Paris if broken 2", "France will own Paris if broken 1"]
        given = run_named([read("\n".join(lines)), pact(1), pact(2), pact(3)])
        start = [FRANCE, 0, 4, PARIS, 0, 1, 100, 1]
        self.assertEqual(given[1:], [start + [0, 3, 0, 0, 0, 0], start + [1, 2, 0, 0, 0, 0], start + [1, 1, 0, 0, 0, 0]])

    def test_conditions_on_deeds(self):
        for words, deed in DEEDS:
            for name, number in (("Austria", AUSTRIA), ("France", FRANCE)):
                start = [BRITAIN, 1, 4, LONDON, 0, 7, 7, 1, 2, number]
                self.assertEqual(pact_of("Britain will not own London in 7 if " + name + " does " + words), start + [0] + deed)
                self.assertEqual(pact_of("Britain will not own London in 7 if " + name + " does not " + words), start + [1] + deed)

    def test_six_conditions_in_their_order(self):
        line = ("France will enter Paris in 2 to 3 if broken 1 and Austria does not support Vienna to London and kept 1 and "
                "Britain does hold Burgundy and kept 1 and broken 1")
        self.assertEqual(pact_of(line), [
            FRANCE, 0, 0, PARIS, 0, 2, 3, 6, 1, 1, 0, 0, 0, 0, 2, AUSTRIA, 1, 2, VIENNA, LONDON, 0, 1, 0, 0, 0, 0,
            2, BRITAIN, 0, 3, BURGUNDY, 0, 0, 1, 0, 0, 0, 0, 1, 1, 0, 0, 0, 0])

    def test_each_promise_has_its_number(self):
        calls = [read("Austria will own Paris\n#\nBritain will own Paris"), read("France will own Paris"), pact(3), pact(1), pact(2), pact(4)]
        self.assertEqual(run_named(calls)[2:], [[FRANCE, 0, 4, 0, 0, 1, 100, 0], [AUSTRIA, 0, 4, 0, 0, 1, 100, 0],
                                                [BRITAIN, 0, 4, 0, 0, 1, 100, 0], [-1]])

    def test_number_24(self):
        calls = [read("Austria will own Paris\n" * 23 + "Britain will hold Vienna if kept 24"), pact(24), pact(25), pact(23)]
        self.assertEqual(run_named(calls)[1:], [[BRITAIN, 0, 3, VIENNA, 0, 1, 100, 1, 0, 24, 0, 0, 0, 0], [-1],
                                                [AUSTRIA, 0, 4, PARIS, 0, 1, 100, 0]])

    def test_a_refused_text_has_no_promises(self):
        self.assertEqual(run_named([read("France will own Paris\nx"), pact(1)])[1], [-1])

    def test_the_same_in_later_seasons(self):
        given = run_named([read("France will own Paris in 1 if kept 1"), pact(1), JUDGE, pact(1), JUDGE, pact(1)])
        self.assertEqual([given[3], given[5]], [given[1], given[1]])

    def test_behind_clear(self):
        calls = names() + [read("France will own Paris"), CLEAR, pact(1)]
        self.assertEqual(run(calls)[-1], [-1])


if __name__ == "__main__":
    unittest.main()
