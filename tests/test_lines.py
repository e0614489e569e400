"""Lines of calls in which all fourteen calls come."""

import random
import unittest

from tests.helper import CLEAR, JUDGE, PRINT, run
from tests.story import Story
from treatytable.desk import answers


def some_story(seed, count):
    """A story that's not longer than a line of calls may be, with each of the fourteen calls in it."""
    story = Story(random.Random(seed))
    story.tell_some(count)
    story.tell_each_call_once()
    story.tell_some(count)
    if len(story.told) > 400 or [call for call, answer in story.told].count(PRINT) > 60:
        raise AssertionError("too long a line of calls")
    return story.told


def flat(told):
    return [number for call, answer in told for number in call]


class Lines(unittest.TestCase):
    def check(self, told):
        given = run([call for call, answer in told])
        for place, (call, answer) in enumerate(told):
            self.assertEqual(given[place], answer, told[:place + 1])

    def test_against_the_words(self):
        seen, refused, verdicts = set(), set(), set()
        for seed in range(120):
            told = some_story(seed, 50)
            self.check(told)
            seen.update(call[0] for call, answer in told)
            refused.update((call[0], answer[0]) for call, answer in told if answer[0] < 0)
            verdicts.update(number for call, answer in told if call == JUDGE for number in answer[2:])
        self.assertEqual(seen, set(range(14)))
        self.assertEqual(verdicts, {0, 1, 2, 3})
        self.assertLessEqual({(1, -1), (1, -3), (1, -4), (2, -1), (2, -3), (2, -4), (3, -1), (5, -1), (5, -3), (5, -4), (8, -1),
                              (8, -6), (10, -1), (11, -1)}, refused)

    def test_through_all_seasons(self):
        for seed in range(4):
            story = Story(random.Random(seed))
            for name in range(14):
                story.power()
                story.province()
            for season in range(102):
                story.source.choice([story.fact, story.read, story.first])()
                story.judge()
                story.verdict()
            for call in (story.fact, story.now, story.first, story.preview, story.list_facts, story.judge, story.now):
                call()
            self.check(story.told)
            judged = [answer[0] for call, answer in story.told if call == JUDGE]
            self.assertEqual(judged, list(range(1, 100)) + [-5] * 4)

    def test_twice_alike(self):
        for seed in range(30):
            calls = flat(some_story(seed, 40))
            self.assertEqual(answers(calls), answers(calls))

    def test_two_lines_in_turn(self):
        one, other = flat(some_story(1, 40)), flat(some_story(2, 40))
        first, second = answers(one), answers(other)
        self.assertEqual((answers(one), answers(other)), (first, second))

    def test_what_is_handed_in_stays(self):
        for seed in range(30):
            calls = flat(some_story(seed, 40))
            copy = list(calls)
            answers(calls)
            self.assertEqual(calls, copy)

    def test_behind_clear_all_is_as_on_a_new_table(self):
        for seed in range(30):
            before = [call for call, answer in some_story(seed, 20)]
            behind = [call for call, answer in some_story(seed + 1, 20)]
            self.assertEqual(run(before + [CLEAR] + behind)[len(before) + 1:], run(behind))


if __name__ == "__main__":
    unittest.main()
