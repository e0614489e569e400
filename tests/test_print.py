"""print, and that what's printed and read again is the same treaty (promise 4)."""

import random
import unittest

from tests.helper import CLEAR, POWERS, PREVIEW, PRINT, PROVINCES, fact, names, printed, read, run, run_named


def printed_of(text):
    """What's printed after the text is read."""
    given = run_named([read(text), PRINT])
    if given[0][0] != 0:
        raise AssertionError(given[0])
    return bytes(given[1][1:]).decode("ascii")


def some_deed(source):
    place = source.choice(PROVINCES)
    return source.choice(["enter " + place, "support " + place, "hold " + place, "own " + place,
                          "support " + place + " to " + source.choice(PROVINCES)])


def some_condition(source, most):
    if source.random() < 0.6:
        return source.choice(["kept ", "broken "]) + str(source.randint(1, most))
    return source.choice(POWERS) + source.choice([" does ", " does not "]) + some_deed(source)


def some_seasons(source):
    """Seasons as they may be written, and as they're printed."""
    since = source.choice([1, 2, source.randint(1, 100)])
    till = source.choice([100, since, source.randint(since, 100)])
    both = " in " + str(since) + " to " + str(till)
    if (since, till) == (1, 100):
        return source.choice(["", both]), ""
    if since == till:
        return source.choice([" in " + str(since), both]), " in " + str(since)
    return both, both


def some_promise(source, most):
    """A line as it may be written, and as it's printed."""
    start = source.choice(POWERS) + source.choice([" will ", " will not "]) + some_deed(source)
    written, told = some_seasons(source)
    end = ""
    for place in range(source.choice([0, 1, 1, 2, 3, 6])):
        end += (" and " if place > 0 else " if ") + some_condition(source, most)
    return start + written + end, start + told + end + "\n"


class Print(unittest.TestCase):
    def test_nothing(self):
        self.assertEqual(run([PRINT]), [[0]])
        self.assertEqual(run_named([PRINT, read("#\n\n"), PRINT]), [[0], [0, 0], [0]])

    def test_how_many_bytes_and_they(self):
        line = "France will own Paris\n"
        self.assertEqual(run_named([read(line), PRINT]), [[0, 1], [22] + list(line.encode("ascii"))])

    def test_each_deed(self):
        for deed in ("enter Paris", "support Paris", "support Paris to Vienna", "support Vienna to Vienna", "hold London",
                     "own Burgundy"):
            for line in ("France will " + deed, "France will not " + deed, "France will own Paris if Britain does " + deed,
                         "France will own Paris if Britain does not " + deed):
                self.assertEqual(printed_of(line), line + "\n")

    def test_seasons_left_out(self):
        self.assertEqual(printed_of("France will own Paris in 1 to 100"), "France will own Paris\n")
        self.assertEqual(printed_of("France will own Paris in 1 to 100 if kept 1"), "France will own Paris if kept 1\n")

    def test_one_season(self):
        for season in ("1", "2", "10", "99", "100"):
            line = "France will own Paris in " + season
            self.assertEqual(printed_of(line), line + "\n")
            self.assertEqual(printed_of(line + " to " + season + " if broken 1"), line + " if broken 1\n")

    def test_two_seasons(self):
        for seasons in ("1 to 2", "1 to 99", "2 to 100", "99 to 100", "9 to 10"):
            line = "France will own Paris in " + seasons
            self.assertEqual(printed_of(line), line + "\n")
            self.assertEqual(printed_of(line + " if kept 1"), line + " if kept 1\n")

    def test_conditions_in_their_order(self):
        line = ("Austria will support Paris if broken 1 and kept 1 and France does own Paris and kept 1 and "
                "Britain does not support Paris to Paris and broken 1\n")
        self.assertEqual(printed_of(line), line)

    def test_one_blank_and_no_remarks(self):
        self.assertEqual(printed_of("# x\n\n  France   will own   Paris in 3  if kept  1 \n #"),
                         "France will own Paris in 3 if kept 1\n")

    def test_changes_nothing(self):
        line = "France will own Paris\n"
        self.assertEqual(run_named([read(line), PRINT, PRINT, PREVIEW])[1:], [printed(line), printed(line), [1, 2]])

    def test_sixty_times_a_full_table(self):
        line = "Austria will not support Burgundy to Burgundy in 10 to 99\n"
        given = run_named([read(line * 24)] + [PRINT] * 60)
        self.assertEqual(given[1:], [printed(line * 24)] * 60)


class ReadAgain(unittest.TestCase):
    def test_some_treaties(self):
        for seed in range(300):
            source = random.Random(seed)
            count = source.randint(1, 8)
            promises = [some_promise(source, count) for number in range(count)]
            text = "\n".join([written for written, told in promises])
            self.assertLessEqual(len(text), 2000)
            self.assertEqual(printed_of(text), "".join([told for written, told in promises]))
            self.check_same(text, source)

    def check_same(self, text, source):
        facts = [fact(source.randrange(3), kind, source.randrange(4)) for kind in (0, 1, 3, 4)]
        behind = [PRINT, PREVIEW] + facts + [PREVIEW]
        first = run_named([read(text)] + behind)
        again = run(names() + [read(text), CLEAR] + names() + [read(printed_of(text))] + behind)
        self.assertEqual(again[-len(first):], first)

    def test_a_treaty_put_together_from_several_texts(self):
        texts = ["France will own Paris in 1 to 1", "Austria will hold Vienna if kept 1\n#\nBritain will own London if broken 2"]
        first = run_named([read(text) for text in texts] + [PRINT, PREVIEW])
        told = bytes(first[2][1:]).decode("ascii")
        self.assertEqual(run_named([read(told), PRINT, PREVIEW]), [[0, 3]] + first[2:])


if __name__ == "__main__":
    unittest.main()
