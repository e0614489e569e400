"""Points 1 to 4 of the document's promises, over treaties drawn at random and judged over several seasons."""

import random
import unittest

from tests.by_the_words import ByTheWords
from tests.drawing import by_the_facts, in_pairs, line_of, pact_of, some_deed, some_promise
from tests.helper import CLEAR, JUDGE, POWERS, PRINT, PROVINCES, fact, names, pact, read, run, run_named

SEASONS = 4


class Treaty:
    """Promises, the facts of some seasons, and the rows of verdicts that judge answers."""

    def __init__(self, source, count, earlier_alone=False, paired=False):
        self.promises = [some_promise(source, 2, 2, number if earlier_alone else count) for number in range(count)]
        if paired:
            self.promises = in_pairs(source, self.promises)
        self.facts = [{(source.randrange(2), *some_deed(source, 2)) for k in range(source.randint(0, 6))} for season in range(SEASONS)]
        # One promise a text where all hang on earlier ones, so that long treaties can be read too.
        lines = [line_of(promise, POWERS, PROVINCES) for promise in self.promises]
        calls = [read(line) for line in lines] if earlier_alone else [read("\n".join(lines))]
        for facts in self.facts:
            calls += [fact(*told) for told in sorted(facts)] + [JUDGE]
        given = run_named(calls)
        self.rows = [given[place][2:] for place, call in enumerate(calls) if call == JUDGE]
        if [len(row) for row in self.rows] != [count] * SEASONS:
            raise AssertionError("the treaty isn't read")

    def by_the_facts(self, season):
        """The promises in the season, as ByTheWords takes them."""
        return [by_the_facts(promise, season, self.facts[season - 1]) for promise in self.promises]

    def consistent(self, season=1, before=frozenset()):
        """Each consistent way to say what's broken in the season, behind each such way in the seasons before it."""
        for way in ByTheWords(self.by_the_facts(season), before, before).consistent():
            yield season, way
            if season < SEASONS:
                yield from self.consistent(season + 1, before | way)


class ThePromises(unittest.TestCase):
    def test_1_what_is_done_or_out_of_time_is_never_broken(self):
        looked_at = 0
        for seed in range(300):
            treaty = Treaty(random.Random(seed), 1 + seed % 12)
            for season, row in enumerate(treaty.rows, start=1):
                for (in_time, done, conditions), verdict in zip(treaty.by_the_facts(season), row):
                    if done or not in_time:
                        looked_at += 1
                        self.assertIn(verdict, (0, 1) if in_time else (0,))
        self.assertGreater(looked_at, 1000)

    def test_2_every_consistent_way(self):
        looked_at = {season: 0 for season in range(1, SEASONS + 1)}
        several = 0
        for seed in range(400):
            treaty = Treaty(random.Random(seed), 1 + seed % 5, paired=seed % 2 == 1)
            ways = list(treaty.consistent())
            several += len(ways) > SEASONS
            for season, way in ways:
                looked_at[season] += 1
                for number, verdict in enumerate(treaty.rows[season - 1], start=1):
                    self.assertFalse(verdict == 2 and number not in way, seed)
                    self.assertFalse(verdict in (0, 1) and number in way, seed)
        self.assertGreater(min(looked_at.values()), 200)
        self.assertGreater(several, 10)

    def test_3_nothing_is_open_where_promises_hang_on_earlier_ones(self):
        seen = set()
        for seed in range(200):
            treaty = Treaty(random.Random(seed), 1 + seed % 24, earlier_alone=True)
            seen.update(verdict for row in treaty.rows for verdict in row)
        self.assertEqual(seen, {0, 1, 2})

    def test_4_what_is_printed_and_read_again_is_the_same(self):
        for seed in range(300):
            source = random.Random(seed)
            count = 1 + seed % 8
            promises = [some_promise(source, len(POWERS), len(PROVINCES), count, latest=100) for number in range(count)]
            text = "\n".join([line_of(promise, POWERS, PROVINCES) for promise in promises])
            told = [PRINT] + [pact(number) for number in range(count + 2)]
            first = run_named([read(text), JUDGE] + told)[2:]
            self.assertEqual(first[1:], [[-1]] + [pact_of(promise) for promise in promises] + [[-1]])
            printed = first[0][1:]
            self.assertEqual(run_named([read(printed)] + told), [[0, count]] + first)
            self.assertEqual(run(names() + [read(text), JUDGE, CLEAR] + names() + [read(printed)] + told)[-len(told):], first)


if __name__ == "__main__":
    unittest.main()
