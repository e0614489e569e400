"""Verdicts behind seasons that were judged."""

import random
import unittest

from tests.by_the_words import ByTheWords
from tests.drawing import by_the_facts, line_of, some_deed, some_promise
from tests.helper import JUDGE, POWERS, PREVIEW, PROVINCES, fact, read, run_named, verdict

OWN = 4
AUSTRIA, BRITAIN, FRANCE = range(3)
PARIS, VIENNA, LONDON, BURGUNDY = range(4)

OWNS = fact(FRANCE, OWN, PARIS)
HANGING = ["Britain will own London in 2 to 100 if kept 1", "Britain will own London in 2 to 100 if broken 1",
           "Britain will not own London in 2 to 100 if kept 1", "Britain will not own London in 2 to 100 if broken 1"]


def judged(lines, seasons):
    """The rows of the seasons, each told by its facts; that preview tells them too is seen to."""
    calls = [read("\n".join(lines))]
    for facts in seasons:
        calls += facts + [PREVIEW, JUDGE]
    given = run_named(calls)
    if given[0] != [0, len(lines)]:
        raise AssertionError(given[0])
    previews = [given[place] for place, call in enumerate(calls) if call == PREVIEW]
    rows = [given[place] for place, call in enumerate(calls) if call == JUDGE]
    if rows != [[season] + row for season, row in enumerate(previews, start=1)]:
        raise AssertionError((previews, rows))
    return [row[1:] for row in previews]


class Broken(unittest.TestCase):
    def test_in_an_earlier_season(self):
        self.assertEqual(judged(["France will own Paris in 1"] + HANGING, [[], [], []]), [
            [2, 0, 0, 0, 0], [0, 0, 2, 0, 1], [0, 0, 2, 0, 1]])

    def test_not_broken_in_an_earlier_season(self):
        self.assertEqual(judged(["France will own Paris in 1"] + HANGING, [[OWNS], [], []]), [
            [1, 0, 0, 0, 0], [0, 2, 0, 1, 0], [0, 2, 0, 1, 0]])

    def test_kept_again_afterwards(self):
        self.assertEqual(judged(["France will own Paris"] + HANGING, [[], [OWNS], [OWNS]]), [
            [2, 0, 0, 0, 0], [1, 0, 2, 0, 1], [1, 0, 2, 0, 1]])

    def test_several_seasons_ago(self):
        seasons = [[OWNS], [], [OWNS], [OWNS], [OWNS]]
        self.assertEqual(judged(["France will own Paris"] + HANGING, seasons), [
            [1, 0, 0, 0, 0], [2, 0, 2, 0, 1], [1, 0, 2, 0, 1], [1, 0, 2, 0, 1], [1, 0, 2, 0, 1]])

    def test_a_promise_that_hangs_on_itself(self):
        self.assertEqual(judged(["France will own Paris if broken 1"], [[], []]), [[0], [0]])
        lines = ["France will own Paris if kept 2", "Austria will own Vienna in 2 if kept 2"]
        self.assertEqual(judged(lines, [[], [], []]), [[2, 0], [3, 3], [3, 0]])

    def test_broken_for_sure_though_open_later(self):
        lines = ["France will own Paris if kept 6"] + HANGING + ["Austria will own Vienna in 2 if kept 6"]
        self.assertEqual(judged(lines, [[], [], []]), [[2, 0, 0, 0, 0, 0], [3, 0, 2, 0, 1, 3], [3, 0, 2, 0, 1, 0]])

    def test_it_binds_others_for_all_seasons(self):
        lines = ["France will own Paris in 1", "Austria will own Vienna in 2 if broken 1", "Britain will own London in 3 if broken 2"]
        self.assertEqual(judged(lines, [[], [], [], []]), [[2, 0, 0], [0, 2, 0], [0, 0, 2], [0, 0, 0]])
        self.assertEqual(judged(lines, [[], [fact(AUSTRIA, OWN, VIENNA)], []]), [[2, 0, 0], [0, 1, 0], [0, 0, 0]])

    def test_a_preview_is_not_judged(self):
        calls = [read("France will own Paris in 1\nBritain will own London if broken 1"), PREVIEW, OWNS, PREVIEW, JUDGE, PREVIEW]
        self.assertEqual(run_named(calls)[1:], [[2, 2, 2], [1], [2, 1, 0], [1, 2, 1, 0], [2, 0, 0]])


class Open(unittest.TestCase):
    def test_in_an_earlier_season(self):
        self.assertEqual(judged(["France will own Paris in 1 if kept 1"] + HANGING, [[], [], []]), [
            [3, 0, 0, 0, 0], [0, 3, 3, 0, 0], [0, 3, 3, 0, 0]])

    def test_done_afterwards(self):
        self.assertEqual(judged(["France will own Paris if kept 1"] + HANGING, [[], [OWNS]]), [[3, 0, 0, 0, 0], [0, 3, 3, 0, 0]])

    def test_what_hung_on_it_may_be_broken_too(self):
        lines = ["France will own Paris in 1 if kept 1", "Austria will own Vienna in 2 if broken 1",
                 "Britain will own London in 3 if broken 2", "Britain will own London in 3 if kept 2", "France will own Paris in 3"]
        self.assertEqual(judged(lines, [[], [], []]), [[3, 0, 0, 0, 0], [0, 3, 0, 0, 0], [0, 0, 3, 3, 2]])

    def test_only_in_the_seasons_in_which_its_deeds_hold(self):
        lines = ["France will own Paris if kept 1 and Britain does own London"]
        self.assertEqual(judged(lines, [[], [fact(BRITAIN, OWN, LONDON)], []]), [[0], [3], [0]])

    def test_rings_that_stay_open(self):
        for size in (1, 2, 3, 8, 24):
            ring = ["France will own Paris if kept " + str(n % size + 1) for n in range(1, size + 1)]
            self.assertEqual(judged(ring, [[]] * 5), [[3] * size] * 5)

    def test_a_ring_that_was_open_is_not_decided_by_what_is_done_later(self):
        ring = ["France will own Paris if kept 2", "Britain will own London if kept 1"]
        both = [OWNS, fact(BRITAIN, OWN, LONDON)]
        self.assertEqual(judged(ring, [[], [OWNS], both, []]), [[3, 3], [0, 3], [0, 0], [3, 3]])

    def test_a_ring_decided_first(self):
        ring = ["France will own Paris if kept 2", "Britain will own London if kept 1"]
        both = [OWNS, fact(BRITAIN, OWN, LONDON)]
        self.assertEqual(judged(ring, [both, [OWNS], [], both]), [[1, 1], [0, 2], [0, 2], [0, 1]])
        self.assertEqual(judged(ring, [both, [], [OWNS]]), [[1, 1], [3, 3], [0, 3]])

    def test_rings_of_broken_stay_idle_until_one_is_broken(self):
        ring = ["France will own Paris if broken 2", "Britain will own London if broken 1"]
        self.assertEqual(judged(ring, [[], [], []]), [[0, 0]] * 3)
        ring[0] += " and broken 3"
        self.assertEqual(judged(ring + ["Austria will own Vienna in 2"], [[], [], []]), [[0, 0, 0], [0, 0, 2], [0, 0, 0]])

    def test_a_ring_broken_for_sure_from_an_earlier_season(self):
        ring = ["France will own Paris if kept 2 and kept 3", "Britain will own London if kept 1 and kept 3", "Austria will own Vienna in 1"]
        self.assertEqual(judged(ring, [[], []]), [[0, 0, 2], [0, 0, 0]])
        self.assertEqual(judged(ring, [[fact(AUSTRIA, OWN, VIENNA)], []]), [[3, 3, 1], [3, 3, 0]])


class ReadLater(unittest.TestCase):
    def test_it_hangs_on_what_was_broken_before(self):
        calls = [read("France will own Paris in 1"), JUDGE, read("Britain will own London if broken 1\nBritain will own London if kept 1"),
                 PREVIEW, JUDGE, verdict(1), verdict(2)]
        self.assertEqual(run_named(calls)[3:], [[3, 0, 2, 0], [2, 3, 0, 2, 0], [1, 2], [3, 0, 2, 0]])

    def test_it_hangs_on_what_was_open_before(self):
        calls = [read("France will own Paris in 1 if kept 1"), JUDGE, JUDGE,
                 read("Britain will own London if broken 1\nBritain will not own London if kept 1"), JUDGE]
        self.assertEqual(run_named(calls)[4], [3, 3, 0, 3, 0])

    def test_it_was_not_broken_before_it_was_there(self):
        text = "Austria will own Vienna in 1 to 2\nBritain will own London in 3 if kept 2\nBritain will own London in 3 if broken 2"
        calls = [read("France will own Paris"), JUDGE, read(text), fact(AUSTRIA, OWN, VIENNA), JUDGE, JUDGE]
        self.assertEqual(run_named(calls)[4:], [[2, 4, 2, 1, 0, 0], [3, 4, 2, 0, 2, 0]])

    def test_its_number_is_not_mixed_with_an_earlier_one(self):
        calls = [read("France will not own Paris\nFrance will own Paris"), JUDGE, read("Britain will own London if kept 3"),
                 fact(BRITAIN, OWN, LONDON), JUDGE, JUDGE]
        self.assertEqual(run_named(calls)[4:], [[2, 3, 1, 2, 1], [3, 3, 1, 2, 3]])

    def test_a_ring_closed_by_it(self):
        text = "Austria will own Vienna if kept 3\nBritain will own London if kept 2"
        calls = [read("France will own Paris"), JUDGE, read(text), JUDGE, read("France will own Paris if kept 2"), JUDGE]
        self.assertEqual(run_named(calls)[1::2], [[1, 1, 2], [2, 3, 2, 3, 3], [3, 4, 2, 3, 3, 3]])


class WordByWord(unittest.TestCase):
    def test_some_treaties_over_several_seasons(self):
        seen, behind_open = set(), 0
        for seed in range(600):
            source = random.Random(seed)
            calls, expected = self.some_seasons(source, 4)
            given = run_named(calls)
            rows = [given[place][2:] for place, call in enumerate(calls) if call == JUDGE]
            self.assertEqual(rows, expected, calls)
            seen.update(verdict for row in rows for verdict in row)
            behind_open += any(3 in row for row in rows[:-1])
        self.assertEqual(seen, {0, 1, 2, 3})
        self.assertGreater(behind_open, 100)

    def some_seasons(self, source, seasons):
        """Calls that read and judge, and the rows that they are to answer."""
        calls, rows, promises = [], [], []
        for season in range(1, seasons + 1):
            new = source.choice([0, 1, 2]) if promises else source.randint(1, 4)
            new = min(new, 6 - len(promises))
            added = [some_promise(source, 2, 2, len(promises) + new) for k in range(new)]
            promises += added
            facts = {(source.randrange(2), *some_deed(source, 2)) for k in range(source.randint(0, 6))}
            calls += [read("\n".join([line_of(promise, POWERS, PROVINCES) for promise in added]))]
            calls += [fact(*told) for told in sorted(facts)] + [JUDGE]
            rows.append(self.row(promises, season, facts, rows))
        return calls, rows

    def row(self, promises, season, facts, rows):
        cases = [(n, given) for row in rows for n, given in enumerate(row, start=1)]
        sure = {n for n, given in cases if given == 2}
        possible = {n for n, given in cases if given in (2, 3)}
        return ByTheWords([by_the_facts(promise, season, facts) for promise in promises], sure, possible).verdicts()


if __name__ == "__main__":
    unittest.main()
