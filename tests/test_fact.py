"""fact and facts."""

import itertools
import random
import unittest

from tests.helper import CLEAR, FACTS, JUDGE, PREVIEW, fact, names, power, province, read, run, run_named

HUGE = (-2 ** 63, -1, 2 ** 63 - 1)


class Fact(unittest.TestCase):
    def test_how_many(self):
        calls = [fact(0, 0, 0), fact(0, 1, 0), fact(0, 2, 0, 0), fact(0, 2, 0, 3), fact(0, 2, 3, 0), fact(2, 4, 3)]
        self.assertEqual(run_named(calls), [[1], [2], [3], [4], [5], [6]])

    def test_a_support_and_a_support_to_are_two_deeds(self):
        self.assertEqual(run_named([fact(0, 1, 0), fact(0, 2, 0, 0), fact(0, 1, 0), fact(0, 2, 0, 0)]),
                         [[1], [2], [-4], [-4]])

    def test_on_an_empty_table(self):
        self.assertEqual(run([fact(0, 0, 0)]), [[-1]])
        self.assertEqual(run([power("Spain"), fact(0, 0, 0), province("Rome"), fact(0, 0, 0)]), [[0], [-1], [0], [1]])
        self.assertEqual(run([province("Rome"), fact(0, 0, 0)]), [[0], [-1]])

    def test_out_of_range(self):
        wrong = [fact(3, 0, 0), fact(0, 5, 0), fact(0, 0, 4), fact(0, 2, 0, 4), fact(0, 0, 0, 4)]
        for number in HUGE:
            wrong += [fact(number, 0, 0), fact(0, number, 0), fact(0, 0, number), fact(0, 2, 0, number), fact(0, 1, 0, number)]
        for call in wrong:
            self.assertEqual(run_named([call, fact(2, 2, 3, 3)]), [[-1], [1]], call)

    def test_second_province_only_with_kind_2(self):
        for kind in (0, 1, 3, 4):
            self.assertEqual(run_named([fact(0, kind, 0, 1), fact(0, kind, 0, 0)]), [[-3], [1]])
        self.assertEqual(run_named([fact(0, 2, 0, 1)]), [[1]])

    def test_twice(self):
        self.assertEqual(run_named([fact(0, 0, 0), fact(0, 0, 0), fact(1, 0, 0)]), [[1], [-4], [2]])

    def test_full_and_the_order_of_refusals(self):
        provinces = [province("P" + "abcdefghijklmnopqrstuvwxyz"[k % 26] * (1 + k // 26)) for k in range(40)]
        start = [power("Spain"), power("Italy")] + provinces
        fill = [fact(p, kind, a) for p in (0, 1) for kind in (0, 4) for a in range(25)]
        last = [fact(2, 0, 0, 1), fact(0, 0, 40), fact(0, 0, 0, 1), fact(0, 0, 0), fact(0, 1, 0), fact(0, 2, 0, 1)]
        given = run(start + fill + last)[len(start):]
        self.assertEqual(given[:100], [[k] for k in range(1, 101)])
        self.assertEqual(given[100:], [[-1], [-1], [-3], [-4], [-2], [-2]])

    def test_refused_facts_are_no_facts(self):
        text = "France will enter Vienna\nFrance will support Paris to Vienna"
        refused = [fact(2, 0, 1, 1), fact(2, 5, 1), fact(3, 0, 1), fact(2, 2, 0, 4)]
        self.assertEqual(run_named([read(text)] + refused + [PREVIEW])[-1], [2, 2, 2])
        self.assertEqual(run_named([read(text), fact(2, 0, 1), PREVIEW])[-1], [2, 1, 2])

    def test_names_told_later_are_in_range_then(self):
        self.assertEqual(run(names() + [fact(3, 0, 4), power("Spain"), province("Rome"), fact(3, 0, 4)])[-4:],
                         [[-1], [3], [4], [1]])


class Facts(unittest.TestCase):
    def answer(self, told):
        return [len(told)] + [number for one in told for number in one]

    def test_none(self):
        self.assertEqual(run([FACTS]), [[0]])
        self.assertEqual(run_named([FACTS]), [[0]])

    def test_the_order_of_the_four_numbers(self):
        told = [(0, 2, 0, 0), (0, 2, 0, 3), (0, 2, 1, 0), (0, 3, 0, 0), (1, 0, 0, 0)]
        for order in itertools.permutations(told):
            self.assertEqual(run_named([fact(*one) for one in order] + [FACTS])[-1], self.answer(told))

    def test_each_number_counts_before_those_behind_it(self):
        for told in ([(0, 4, 3, 0), (1, 0, 0, 0)], [(1, 2, 3, 3), (1, 3, 0, 0)], [(1, 2, 0, 3), (1, 2, 1, 0)], [(2, 2, 3, 1), (2, 2, 3, 2)]):
            for order in (told, told[::-1]):
                self.assertEqual(run_named([fact(*one) for one in order] + [FACTS])[-1], self.answer(told))

    def test_numbers_of_two_digits(self):
        provinces = [province("P" + "abcdefghijklmnopqrstuvwxyz"[k]) for k in range(12)]
        told = [(0, 0, a, 0) for a in (1, 2, 9, 10, 11)] + [(0, 2, 2, b) for b in (1, 2, 9, 10, 11)]
        self.assertEqual(run([power("Spain")] + provinces + [fact(*one) for one in told[::-1]] + [FACTS])[-1], self.answer(told))

    def test_a_hundred(self):
        told = [(p, kind, a, 0) for p in range(3) for kind in (0, 1, 3, 4) for a in range(4)]
        told = sorted(told + [(p, 2, a, b) for p in range(3) for a in range(4) for b in range(4)] + [(3, 0, a, 0) for a in range(4)])
        self.assertEqual(len(told), 100)
        for seed in range(5):
            order = list(told)
            random.Random(seed).shuffle(order)
            self.assertEqual(run_named([power("Spain")] + [fact(*one) for one in order] + [FACTS])[-1], self.answer(told))

    def test_changes_nothing(self):
        given = run_named([fact(1, 0, 0), fact(0, 0, 0), FACTS, FACTS, fact(1, 0, 0), fact(0, 0, 1), FACTS])
        self.assertEqual(given[2:], [[2, 0, 0, 0, 0, 1, 0, 0, 0]] * 2 + [[-4], [3], [3, 0, 0, 0, 0, 0, 0, 1, 0, 1, 0, 0, 0]])

    def test_refused_facts_are_not_told(self):
        self.assertEqual(run_named([fact(0, 0, 0, 1), fact(3, 0, 0), fact(0, 5, 0), fact(2, 2, 3, 3), fact(2, 2, 3, 3), FACTS])[-1],
                         [1, 2, 2, 3, 3])

    def test_behind_judge_and_clear(self):
        self.assertEqual(run_named([fact(0, 0, 0), JUDGE, FACTS, fact(1, 0, 0), FACTS, CLEAR, FACTS])[2:],
                         [[0], [1], [1, 1, 0, 0, 0], [0], [0]])


if __name__ == "__main__":
    unittest.main()
