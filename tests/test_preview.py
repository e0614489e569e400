"""preview, and the promises 1 to 3 as far as it shows them."""

import random
import unittest

from tests.by_the_words import ByTheWords
from tests.helper import CLEAR, POWERS, PREVIEW, PRINT, PROVINCES, fact, read, run, run_named
from treatytable.judging import verdicts_now
from treatytable.reading import Reading
from treatytable.table import Table

ENTER, SUPPORT, SUPPORT_TO, HOLD, OWN = range(5)
AUSTRIA, BRITAIN, FRANCE = range(3)
PARIS, VIENNA, LONDON, BURGUNDY = range(4)

# Broken whenever it binds: nothing is done in the tests that use it.
BREAKS = "France will own Paris"


def verdicts(lines, facts=()):
    """The verdicts of the lines by the facts."""
    given = run_named([read("\n".join(lines))] + list(facts) + [PREVIEW])
    if given[0] != [0, len(lines)]:
        raise AssertionError(given[0])
    return given[-1][1:]


class Simple(unittest.TestCase):
    def test_no_promises(self):
        self.assertEqual(run([PREVIEW]), [[0]])
        self.assertEqual(run_named([fact(0, 0, 0), PREVIEW]), [[1], [0]])

    def test_a_row(self):
        self.assertEqual(run_named([read(BREAKS + "\n" + BREAKS), PREVIEW]), [[0, 2], [2, 2, 2]])

    def test_promised_to_do(self):
        deeds = (("enter Vienna", fact(FRANCE, ENTER, VIENNA)), ("support Vienna", fact(FRANCE, SUPPORT, VIENNA)),
                 ("support Vienna to London", fact(FRANCE, SUPPORT_TO, VIENNA, LONDON)),
                 ("hold Vienna", fact(FRANCE, HOLD, VIENNA)), ("own Vienna", fact(FRANCE, OWN, VIENNA)))
        for deed, did in deeds:
            for other, did_other in deeds:
                done = deed == other
                lines = ["France will " + deed, "France will not " + deed]
                self.assertEqual(verdicts(lines, [did_other]), [1, 2] if done else [2, 1])

    def test_nothing_done(self):
        self.assertEqual(verdicts(["France will own Paris", "France will not own Paris"]), [2, 1])

    def test_another_power_or_province_does_not_count(self):
        lines = ["France will enter Vienna", "France will not enter Vienna", "France will support Vienna to London"]
        facts = [fact(BRITAIN, ENTER, VIENNA), fact(FRANCE, ENTER, LONDON), fact(FRANCE, SUPPORT_TO, LONDON, VIENNA),
                 fact(FRANCE, SUPPORT_TO, VIENNA, VIENNA), fact(FRANCE, SUPPORT, VIENNA)]
        self.assertEqual(verdicts(lines, facts), [2, 1, 2])

    def test_support_to_the_same_province(self):
        lines = ["France will support Paris", "France will support Paris to Paris"]
        self.assertEqual(verdicts(lines, [fact(FRANCE, SUPPORT, PARIS)]), [1, 2])
        self.assertEqual(verdicts(lines, [fact(FRANCE, SUPPORT_TO, PARIS, PARIS)]), [2, 1])

    def test_in_time(self):
        lines = [BREAKS + seasons for seasons in ("", " in 1", " in 1 to 2", " in 1 to 100", " in 2", " in 2 to 100", " in 100")]
        self.assertEqual(verdicts(lines), [2, 2, 2, 2, 0, 0, 0])
        self.assertEqual(verdicts(lines, [fact(FRANCE, OWN, PARIS)]), [1, 1, 1, 1, 0, 0, 0])

    def test_changes_nothing_and_follows_the_facts(self):
        calls = [read(BREAKS), PREVIEW, PREVIEW, fact(FRANCE, OWN, PARIS), PREVIEW, PRINT, PREVIEW,
                 fact(FRANCE, OWN, PARIS), CLEAR, PREVIEW]
        given = run_named(calls)
        self.assertEqual([given[k] for k in (1, 2, 3, 4, 6, 7, 9)], [[1, 2], [1, 2], [1], [1, 1], [1, 1], [-4], [0]])


class Conditions(unittest.TestCase):
    def test_deeds(self):
        lines = [BREAKS + " if Britain does enter Vienna", BREAKS + " if Britain does not enter Vienna",
                 "France will not own Paris if Britain does enter Vienna",
                 "France will not own Paris if Britain does not enter Vienna"]
        self.assertEqual(verdicts(lines), [0, 2, 0, 1])
        self.assertEqual(verdicts(lines, [fact(BRITAIN, ENTER, VIENNA)]), [2, 0, 1, 0])
        self.assertEqual(verdicts(lines, [fact(FRANCE, ENTER, VIENNA)]), [0, 2, 0, 1])

    def test_support_in_conditions(self):
        lines = [BREAKS + " if Britain does support Vienna to London", BREAKS + " if Britain does support Vienna",
                 BREAKS + " if Britain does not support London to Vienna"]
        self.assertEqual(verdicts(lines, [fact(BRITAIN, SUPPORT_TO, VIENNA, LONDON)]), [2, 0, 2])
        self.assertEqual(verdicts(lines, [fact(BRITAIN, SUPPORT, VIENNA)]), [0, 2, 2])

    def test_kept(self):
        kept = "France will not own Paris"
        self.assertEqual(verdicts([BREAKS, BREAKS + " if kept 1"]), [2, 0])
        self.assertEqual(verdicts([kept, BREAKS + " if kept 1"]), [1, 2])
        self.assertEqual(verdicts([kept, kept + " if kept 1"]), [1, 1])

    def test_idle_is_kept(self):
        idle = BREAKS + " in 2"
        self.assertEqual(verdicts([idle, BREAKS + " if kept 1", BREAKS + " if broken 1"]), [0, 2, 0])

    def test_broken(self):
        kept = "France will not own Paris"
        self.assertEqual(verdicts([BREAKS, BREAKS + " if broken 1"]), [2, 2])
        self.assertEqual(verdicts([BREAKS, kept + " if broken 1"]), [2, 1])
        self.assertEqual(verdicts([kept, BREAKS + " if broken 1"]), [1, 0])

    def test_all_have_to_hold(self):
        start = [BREAKS, "France will not own Paris"]
        good = ("broken 1", "kept 2", "Britain does enter Vienna", "France does not own Paris", "kept 2", "broken 1")
        bad = ("kept 1", "broken 2", "Britain does not enter Vienna", "France does own Paris", "broken 2", "kept 1")
        did = [fact(BRITAIN, ENTER, VIENNA)]
        self.assertEqual(verdicts(start + [BREAKS + " if " + " and ".join(good)], did), [2, 1, 2])
        for place in range(6):
            mixed = good[:place] + bad[place:place + 1] + good[place + 1:]
            self.assertEqual(verdicts(start + [BREAKS + " if " + " and ".join(mixed)], did), [2, 1, 0], mixed)

    def test_the_order_of_lines_does_not_matter(self):
        self.assertEqual(verdicts([BREAKS + " if broken 2", BREAKS + " if broken 3", BREAKS + " if broken 4", BREAKS]), [2] * 4)
        self.assertEqual(verdicts([BREAKS + " if kept 2", BREAKS + " if kept 3", BREAKS + " if kept 4", BREAKS]), [0, 2, 0, 2])

    def test_long_chains(self):
        down = [BREAKS + " if kept " + str(n + 1) for n in range(1, 24)] + [BREAKS]
        self.assertEqual(verdicts(down), [0, 2] * 12)
        up = [BREAKS] + [BREAKS + " if kept " + str(n - 1) for n in range(2, 25)]
        self.assertEqual(verdicts(up), [2, 0] * 12)
        self.assertEqual(verdicts([BREAKS + " if broken " + str(n + 1) for n in range(1, 24)] + [BREAKS]), [2] * 24)


class Rings(unittest.TestCase):
    def test_kept_by_itself(self):
        self.assertEqual(verdicts([BREAKS + " if kept 1"]), [3])

    def test_broken_by_itself(self):
        self.assertEqual(verdicts([BREAKS + " if broken 1"]), [0])

    def test_done_is_never_open(self):
        self.assertEqual(verdicts([BREAKS + " if kept 1"], [fact(FRANCE, OWN, PARIS)]), [1])
        self.assertEqual(verdicts(["France will not own Paris if broken 1"]), [0])

    def test_out_of_time_is_never_open(self):
        self.assertEqual(verdicts([BREAKS + " in 2 if kept 1"]), [0])

    def test_rings_of_kept(self):
        for size in range(1, 25):
            ring = [BREAKS + " if kept " + str(n % size + 1) for n in range(1, size + 1)]
            self.assertEqual(verdicts(ring), [3] * size)

    def test_rings_of_broken(self):
        for size in range(1, 25):
            ring = [BREAKS + " if broken " + str(n % size + 1) for n in range(1, size + 1)]
            self.assertEqual(verdicts(ring), [0] * size)

    def test_a_ring_with_a_way_in(self):
        ring = [BREAKS + " if broken 2", BREAKS + " if broken 1", BREAKS]
        self.assertEqual(verdicts(ring), [0, 0, 2])
        self.assertEqual(verdicts([BREAKS + " if kept 2", BREAKS]), [0, 2])
        self.assertEqual(verdicts([BREAKS + " if kept 2 and kept 3", BREAKS + " if kept 1 and kept 3", BREAKS]), [0, 0, 2])
        self.assertEqual(verdicts([BREAKS + " if kept 2 and broken 3", BREAKS + " if kept 1 and broken 3", BREAKS]), [3, 3, 2])

    def test_one_that_does_its_part_opens_the_ring(self):
        ring = ["France will own Paris if kept 2", "Britain will own London if kept 1"]
        self.assertEqual(verdicts(ring), [3, 3])
        self.assertEqual(verdicts(ring, [fact(FRANCE, OWN, PARIS)]), [0, 2])
        self.assertEqual(verdicts(ring, [fact(BRITAIN, OWN, LONDON)]), [2, 0])
        self.assertEqual(verdicts(ring, [fact(FRANCE, OWN, PARIS), fact(BRITAIN, OWN, LONDON)]), [1, 1])

    def test_what_hangs_on_an_open_one(self):
        ring = [BREAKS + " if kept 2", BREAKS + " if kept 1"]
        done = "France will not own Paris if "
        self.assertEqual(verdicts(ring + [BREAKS + " if kept 1", BREAKS + " if broken 1", done + "kept 1", done + "broken 1"]),
                         [3, 3, 3, 3, 0, 0])
        self.assertEqual(verdicts(ring + [BREAKS + " if broken 1", BREAKS + " if broken 2", BREAKS + " if broken 3 and broken 4"]),
                         [3, 3, 3, 3, 3])

    def test_settled_after_some_rounds(self):
        lines = [BREAKS, BREAKS + " if kept 1", BREAKS + " if kept 2", BREAKS + " if kept 3 and kept 5", BREAKS + " if kept 4",
                 BREAKS + " if kept 5 and broken 3"]
        self.assertEqual(verdicts(lines), [2, 0, 2, 0, 2, 0])


def some_case(source, count, earlier_alone=False):
    """Lines and, for the same promises, what ByTheWords takes; Austria alone has entered Paris."""
    lines, promises = [], []
    for number in range(1, count + 1):
        in_time, done = source.random() < 0.9, source.random() < 0.2
        line = "France will " + ("not " if done else "") + "own London" + ("" if in_time else " in 2 to 7")
        most = number - 1 if earlier_alone else count
        words, conditions = [], []
        for place in range(source.choice([0, 1, 1, 1, 2, 2, 3])):
            kind = source.choice(["kept", "kept", "broken", "broken", "deed"]) if most > 0 else "deed"
            value = source.random() < 0.8 if kind == "deed" else source.randint(1, most)
            words.append("Austria does " + ("" if value else "not ") + "enter Paris" if kind == "deed" else kind + " " + str(value))
            conditions.append((kind, value))
        lines.append(line + (" if " + " and ".join(words) if words else ""))
        promises.append((in_time, done, conditions))
    return lines, promises


FACTS = [fact(AUSTRIA, ENTER, PARIS)]


class WordByWord(unittest.TestCase):
    def test_some_cases(self):
        seen = set()
        for seed in range(1500):
            lines, promises = some_case(random.Random(seed), 1 + seed % 6)
            expected = ByTheWords(promises).verdicts()
            self.assertEqual(verdicts(lines, FACTS), expected, lines)
            seen.update(expected)
        self.assertEqual(seen, {0, 1, 2, 3})

    def test_seasons_before(self):
        for seed in range(800):
            source = random.Random(seed)
            count = 1 + seed % 5
            lines, promises = some_case(source, count)
            judged = [[source.choice([0, 0, 1, 1, 2, 3]) for n in range(source.randint(0, count))] for k in range(source.choice([1, 2]))]
            sure = {n + 1 for row in judged for n, verdict in enumerate(row) if verdict == 2}
            possible = {n + 1 for row in judged for n, verdict in enumerate(row) if verdict in (2, 3)}
            table = Table()
            table.powers, table.provinces = list(POWERS), list(PROVINCES)
            table.promises = Reading(list("\n".join(lines).encode("ascii")), table).promises
            table.facts, table.judged = {(AUSTRIA, ENTER, PARIS, 0): True}, judged
            self.assertEqual(verdicts_now(table), ByTheWords(promises, sure, possible).verdicts(), (lines, judged))


class ThePromises(unittest.TestCase):
    def test_1_what_is_done_or_out_of_time_is_never_broken(self):
        for seed in range(300):
            lines, promises = some_case(random.Random(seed), 20)
            for (in_time, done, conditions), verdict in zip(promises, verdicts(lines, FACTS)):
                if done or not in_time:
                    self.assertIn(verdict, (0, 1))
                if not in_time:
                    self.assertEqual(verdict, 0)

    def test_2_every_consistent_way(self):
        ways_seen = 0
        for seed in range(500):
            lines, promises = some_case(random.Random(seed), 1 + seed % 5)
            given = verdicts(lines, FACTS)
            for way in ByTheWords(promises).consistent():
                ways_seen += 1
                for n, verdict in enumerate(given, start=1):
                    self.assertFalse(verdict == 2 and n not in way, lines)
                    self.assertFalse(verdict in (0, 1) and n in way, lines)
        self.assertGreater(ways_seen, 300)

    def test_3_nothing_is_open_where_promises_hang_on_earlier_ones(self):
        for seed in range(300):
            lines, promises = some_case(random.Random(seed), 20, earlier_alone=True)
            self.assertNotIn(3, verdicts(lines, FACTS))


if __name__ == "__main__":
    unittest.main()
