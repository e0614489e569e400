"""judge, verdict and now."""

import unittest

from tests.helper import CLEAR, FACTS, FIRST, JUDGE, NOW, PREVIEW, PRINT, blame, fact, power, printed, province, read, run, run_named, verdict

ENTER, SUPPORT, SUPPORT_TO, HOLD, OWN = range(5)
AUSTRIA, BRITAIN, FRANCE = range(3)
PARIS, VIENNA, LONDON, BURGUNDY = range(4)

OWNS = fact(FRANCE, OWN, PARIS)
TEXT = "France will own Paris\nFrance will not own Paris\nFrance will own Paris in 2 to 3\nFrance will hold Paris if kept 4"


class Judge(unittest.TestCase):
    def test_the_season_and_a_row(self):
        self.assertEqual(run_named([read(TEXT), JUDGE]), [[0, 4], [1, 4, 2, 1, 0, 3]])
        self.assertEqual(run_named([read(TEXT), OWNS, JUDGE]), [[0, 4], [1], [1, 4, 1, 2, 0, 3]])

    def test_without_promises(self):
        self.assertEqual(run([JUDGE, JUDGE, JUDGE]), [[1, 0], [2, 0], [3, 0]])

    def test_what_preview_told(self):
        for facts in ([], [OWNS], [fact(FRANCE, HOLD, PARIS)], [OWNS, fact(FRANCE, HOLD, PARIS)]):
            size = len(facts) + 2
            given = run_named([read(TEXT)] + (facts + [PREVIEW, JUDGE]) * 3)
            for season in (1, 2, 3):
                self.assertEqual(given[season * size], [season] + given[season * size - 1])

    def test_the_next_season_goes_on(self):
        lines = ["France will own Paris in " + seasons for seasons in ("1", "2", "3", "2 to 3", "1 to 2")]
        self.assertEqual(run_named([read("\n".join(lines)), JUDGE, JUDGE, JUDGE, JUDGE])[1:],
                         [[1, 5, 2, 0, 0, 0, 2], [2, 5, 0, 2, 0, 2, 2], [3, 5, 0, 0, 2, 2, 0], [4, 5, 0, 0, 0, 0, 0]])

    def test_no_facts_behind_it(self):
        given = run_named([read(TEXT), OWNS, fact(AUSTRIA, SUPPORT_TO, VIENNA, PARIS), JUDGE, FACTS, NOW, PREVIEW, OWNS, OWNS, FACTS])
        self.assertEqual(given[4:], [[0], [2, 4, 0], [4, 2, 1, 2, 3], [1], [-4], [1, FRANCE, OWN, PARIS, 0]])

    def test_a_hundred_facts_in_each_season(self):
        start = [power("Spain")] + [province("P" + "abcdefghijklmnopqrstuvwxyz"[k]) for k in range(25)]
        facts = [fact(0, kind, a) for kind in (0, 1, 3, 4) for a in range(25)]
        given = run(start + (facts + [fact(0, 2, 0, 0), JUDGE]) * 2)[len(start):]
        season = [[k] for k in range(1, 101)] + [[-2]]
        self.assertEqual(given, season + [[1, 0]] + season + [[2, 0]])

    def test_names_and_promises_stay(self):
        line = "France will own Paris\n"
        self.assertEqual(run_named([read(line), JUDGE, PRINT, power("France"), province("Paris"), read(line)])[2:],
                         [printed(line), [-4], [-4], [0, 2]])

    def test_season_100_is_never_judged(self):
        text = "France will own Paris in 99 to 100\nFrance will own Paris in 100\nFrance will hold Paris in 99"
        state = [NOW, FACTS, PREVIEW, FIRST, blame(FRANCE), PRINT, verdict(99), verdict(100)]
        given = run_named([read(text)] + [JUDGE] * 99 + [OWNS] + state + [JUDGE] + state + [JUDGE])
        self.assertEqual([answer[0] for answer in given[1:100]], list(range(1, 100)))
        self.assertEqual(given[98], [98, 3, 0, 0, 0])
        self.assertEqual(given[99], [99, 3, 2, 0, 2])
        before, refused, behind, again = given[101:109], given[109], given[110:118], given[118]
        self.assertEqual((refused, again), ([-5], [-5]))
        self.assertEqual(behind, before)
        self.assertEqual(before[:5], [[100, 3, 1], [1, FRANCE, OWN, PARIS, 0], [3, 1, 1, 0], [99, 2, 1, 3], [99, 2]])
        self.assertEqual(before[6:], [[3, 2, 0, 2], [-6]])

    def test_season_100_still_takes_facts_and_promises(self):
        calls = [JUDGE] * 99 + [read("France will own Paris in 100"), PREVIEW, OWNS, PREVIEW, JUDGE, OWNS, NOW]
        self.assertEqual(run_named(calls)[99:], [[0, 1], [1, 2], [1], [1, 1], [-5], [-4], [100, 1, 1]])

    def test_behind_clear_the_seasons_begin_anew(self):
        given = run_named([JUDGE] * 99 + [JUDGE, CLEAR, JUDGE, JUDGE])
        self.assertEqual(given[99:], [[-5], [0], [1, 0], [2, 0]])


class Verdict(unittest.TestCase):
    def test_out_of_range(self):
        for season in (0, -1, 101, -2 ** 63, 2 ** 63 - 1):
            self.assertEqual(run([verdict(season), JUDGE, verdict(season)]), [[-1], [1, 0], [-1]])

    def test_out_of_range_when_all_are_judged(self):
        calls = [JUDGE] * 99 + [verdict(0), verdict(1), verdict(99), verdict(100), verdict(101), verdict(-1)]
        self.assertEqual(run(calls)[99:], [[-1], [0], [0], [-6], [-1], [-1]])

    def test_not_judged(self):
        self.assertEqual(run([verdict(1), verdict(2), verdict(100)]), [[-6], [-6], [-6]])
        self.assertEqual(run([JUDGE, verdict(1), verdict(2), JUDGE, verdict(2), verdict(3)]),
                         [[1, 0], [0], [-6], [2, 0], [0], [-6]])

    def test_each_season_has_its_own_row(self):
        calls = [read(TEXT), JUDGE, OWNS, JUDGE, fact(FRANCE, HOLD, PARIS), JUDGE, verdict(3), verdict(1), verdict(2), verdict(1)]
        given = run_named(calls)
        one, two, three = given[1][1:], given[3][1:], given[5][1:]
        self.assertEqual((one, two, three), ([4, 2, 1, 0, 3], [4, 1, 2, 1, 3], [4, 2, 1, 2, 0]))
        self.assertEqual(given[6:], [three, one, two, one])

    def test_as_many_as_there_were_then(self):
        calls = [JUDGE, read("France will own Paris"), verdict(1), JUDGE, read("France will not own Paris\nFrance will own Paris"),
                 verdict(1), verdict(2), JUDGE, read("France will own London"), verdict(1), verdict(2), verdict(3), PREVIEW]
        self.assertEqual(run_named(calls), [
            [1, 0], [0, 1], [0], [2, 1, 2], [0, 3], [0], [1, 2], [3, 3, 2, 1, 2], [0, 4], [0], [1, 2], [3, 2, 1, 2], [4, 2, 1, 2, 2]])

    def test_facts_told_later_do_not_change_it(self):
        self.assertEqual(run_named([read(TEXT), JUDGE, OWNS, fact(FRANCE, HOLD, PARIS), verdict(1)])[-1], [4, 2, 1, 0, 3])

    def test_nothing_is_judged_behind_clear(self):
        self.assertEqual(run_named([read(TEXT), JUDGE, CLEAR, verdict(1)])[2:], [[0], [-6]])


class Now(unittest.TestCase):
    def test_a_new_table(self):
        self.assertEqual(run([NOW]), [[1, 0, 0]])
        self.assertEqual(run_named([NOW]), [[1, 0, 0]])

    def test_each_call_that_changes_it(self):
        calls = [read("France will own Paris\n#\nFrance will hold Paris"), NOW, read("France will own London"), NOW, OWNS, NOW,
                 fact(AUSTRIA, ENTER, PARIS), NOW, JUDGE, NOW, OWNS, NOW, JUDGE, NOW, JUDGE, NOW, CLEAR, NOW]
        self.assertEqual(run_named(calls)[1::2], [
            [1, 2, 0], [1, 3, 0], [1, 3, 1], [1, 3, 2], [2, 3, 0], [2, 3, 1], [3, 3, 0], [4, 3, 0], [1, 0, 0]])

    def test_calls_that_do_not_change_it(self):
        start = [read("France will own Paris"), JUDGE, OWNS]
        for call in (PRINT, PREVIEW, verdict(1), FIRST, blame(0), [11, 1], FACTS, NOW, power("Spain"), province("Rome"),
                     read("#"), read("x"), read([256]), OWNS, fact(9, 0, 0), verdict(7), blame(9), [11, 2]):
            self.assertEqual(run_named(start + [call, NOW])[-1], [2, 1, 1], call)


if __name__ == "__main__":
    unittest.main()
