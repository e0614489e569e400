"""first and blame."""

import unittest

from tests.helper import CLEAR, FIRST, JUDGE, PREVIEW, blame, fact, power, read, run, run_named

OWN = 4
AUSTRIA, BRITAIN, FRANCE = range(3)
PARIS = 0
OWNS = fact(FRANCE, OWN, PARIS)


class First(unittest.TestCase):
    def test_none(self):
        self.assertEqual(run([FIRST, JUDGE, FIRST]), [[0, 0], [1, 0], [0, 0]])
        self.assertEqual(run_named([read("France will own Paris"), FIRST, PREVIEW, FIRST]), [[0, 1], [0, 0], [1, 2], [0, 0]])

    def test_kept_and_idle_do_not_count(self):
        text = "France will own Paris\nFrance will own London in 2\nFrance will own London if broken 1"
        self.assertEqual(run_named([read(text), OWNS, JUDGE, FIRST])[2:], [[1, 3, 1, 0, 0], [0, 0]])

    def test_open_ones_do_not_count(self):
        text = "France will own Paris if kept 1\nAustria will own Paris in 3\nBritain will own Paris if broken 1"
        self.assertEqual(run_named([read(text), JUDGE, FIRST, JUDGE, FIRST, JUDGE, FIRST])[1:],
                         [[1, 3, 3, 0, 3], [0, 0], [2, 3, 3, 0, 3], [0, 0], [3, 3, 3, 2, 3], [3, 1, 2]])

    def test_all_the_promises_broken_in_it(self):
        text = ("France will not own Paris\nFrance will own Paris\nBritain will own Paris\nAustria will own Paris if kept 4\n"
                "Austria will own Paris if broken 3")
        self.assertEqual(run_named([read(text), JUDGE, FIRST])[1:], [[1, 5, 1, 2, 2, 3, 2], [1, 3, 2, 3, 5]])

    def test_the_first_season_and_not_a_later_one(self):
        text = "France will own Paris in 2 to 3\nFrance will own London in 3 to 4\nFrance will own Vienna in 3"
        given = run_named([read(text), JUDGE, FIRST, JUDGE, FIRST, JUDGE, FIRST, JUDGE, FIRST])
        self.assertEqual(given[2::2], [[0, 0], [2, 1, 1], [2, 1, 1], [2, 1, 1]])
        given = run_named([read(text), JUDGE, OWNS, JUDGE, FIRST, JUDGE, FIRST, JUDGE, FIRST])
        self.assertEqual([given[4], given[6], given[8]], [[0, 0], [3, 3, 1, 2, 3], [3, 3, 1, 2, 3]])

    def test_all_24(self):
        given = run_named([read("France will own Paris\n" * 24), JUDGE, FIRST])
        self.assertEqual(given[2], [1, 24] + list(range(1, 25)))

    def test_season_99_and_never_season_100(self):
        given = run_named([read("France will own Paris in 99\nFrance will own Paris in 100")] + [JUDGE] * 98 + [FIRST, JUDGE, FIRST, JUDGE, FIRST])
        self.assertEqual(given[99:], [[0, 0], [99, 2, 2, 0], [99, 1, 1], [-5], [99, 1, 1]])
        given = run_named([read("France will own Paris in 100")] + [JUDGE] * 100 + [FIRST])
        self.assertEqual(given[-1], [0, 0])

    def test_behind_clear(self):
        self.assertEqual(run_named([read("France will own Paris"), JUDGE, FIRST, CLEAR, FIRST])[2:], [[1, 1, 1], [0], [0, 0]])


class Blame(unittest.TestCase):
    def test_no_such_power(self):
        self.assertEqual(run([blame(0)]), [[-1]])
        self.assertEqual(run([power("Spain"), blame(0), blame(1), blame(-1)])[1:], [[0, 0], [-1], [-1]])
        for number in (3, -1, 7, 2 ** 63 - 1, -2 ** 63):
            self.assertEqual(run_named([read("France will own Paris"), JUDGE, blame(number)])[2], [-1])

    def test_none(self):
        calls = [read("France will own Paris\nAustria will own Paris if kept 2"), OWNS, PREVIEW, JUDGE] + [blame(k) for k in range(3)]
        self.assertEqual(run_named(calls)[3:], [[1, 2, 1, 3], [0, 0], [0, 0], [0, 0]])

    def test_what_is_not_judged_does_not_count(self):
        self.assertEqual(run_named([read("France will own Paris"), PREVIEW, blame(FRANCE)])[1:], [[1, 2], [0, 0]])

    def test_cases_over_several_seasons(self):
        text = ("France will own Paris in 2 to 4\nFrance will own London in 4\nBritain will own London in 1 to 3\n"
                "Austria will own Vienna if kept 4\nFrance will not own Paris")
        told = []
        for seasons in range(1, 6):
            facts_in_3 = [[JUDGE], [JUDGE], [OWNS, JUDGE], [JUDGE], [JUDGE]]
            calls = [call for season in facts_in_3[:seasons] for call in season]
            told.append(run_named([read(text)] + calls + [blame(AUSTRIA), blame(BRITAIN), blame(FRANCE)])[-3:])
        self.assertEqual(told, [
            [[0, 0], [1, 1], [0, 0]],
            [[0, 0], [1, 2], [2, 1]],
            [[0, 0], [1, 3], [2, 2]],
            [[0, 0], [1, 3], [2, 4]],
            [[0, 0], [1, 3], [2, 4]],
        ])

    def test_several_cases_in_one_season(self):
        text = "France will own Paris\nAustria will own Paris\nFrance will own London\nFrance will own Vienna in 2"
        self.assertEqual(run_named([read(text), JUDGE, blame(FRANCE), blame(AUSTRIA), blame(BRITAIN), JUDGE, blame(FRANCE)])[1:],
                         [[1, 4, 2, 2, 2, 0], [1, 2], [1, 1], [0, 0], [2, 4, 2, 2, 2, 2], [1, 5]])

    def test_a_power_told_after_the_season(self):
        calls = [read("France will own Paris"), JUDGE, power("Spain"), blame(3), read("Spain will own Paris"), JUDGE, blame(3), blame(FRANCE)]
        self.assertEqual(run_named(calls)[2:], [[3], [0, 0], [0, 2], [2, 2, 2, 2], [2, 1], [1, 2]])

    def test_the_most_cases(self):
        given = run_named([read("France will own Paris\n" * 24)] + [JUDGE] * 100 + [blame(FRANCE), blame(AUSTRIA)])
        self.assertEqual(given[-2:], [[1, 99 * 24], [0, 0]])

    def test_behind_clear(self):
        calls = [read("France will own Paris"), JUDGE, CLEAR, blame(0), power("France"), blame(0)]
        self.assertEqual(run_named(calls)[3:], [[-1], [0], [0, 0]])


if __name__ == "__main__":
    unittest.main()
