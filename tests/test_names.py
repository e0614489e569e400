"""clear, power, province."""

import unittest

from tests.helper import CLEAR, PREVIEW, PRINT, fact, names, power, printed, province, read, run, run_named

LETTERS = "abcdefghijklmnopqrstuvwxyz"


def many(count):
    return ["P" + LETTERS[k // 26] + LETTERS[k % 26] for k in range(count)]


class Clear(unittest.TestCase):
    def test_as_the_first_call(self):
        self.assertEqual(run([CLEAR, CLEAR]), [[0], [0]])

    def test_nothing_is_left(self):
        before = [read("France will enter Paris"), fact(0, 0, 0), fact(1, 2, 1, 1)]
        after = run_named(before + [CLEAR, PRINT, PREVIEW, fact(0, 0, 0), read("France will enter Paris")])[3:]
        self.assertEqual(after, [[0], [0], [0], [-1], [1, 1, 1, 2]])

    def test_names_are_free_and_numbered_anew(self):
        after = run_named([CLEAR, province("France"), power("Paris"), fact(0, 0, 0)])
        self.assertEqual(after, [[0], [0], [0], [1]])

    def test_what_comes_after_is_as_on_a_new_table(self):
        text = "France will enter Paris in 1 to 2 if kept 1\n\nAustria will not own London if broken 1"
        line = names() + [read(text), fact(2, 0, 0), PREVIEW, PRINT]
        self.assertEqual(run(line + [CLEAR] + line)[len(line) + 1:], run(line))

    def test_full_lists_are_emptied(self):
        full = [power(name) for name in many(7)] + [province("Q" + name[1:]) for name in many(40)]
        self.assertEqual(run(full + [CLEAR] + full), run(full) + [[0]] + run(full))

    def test_facts_and_promises_are_emptied(self):
        facts = [fact(p, kind, a) for p in range(3) for kind in (0, 1, 3, 4) for a in range(4)]
        line = names() + [read("France will own Paris\n" * 24)] + facts
        self.assertEqual(run(line + [CLEAR] + line), run(line) + [[0]] + run(line))


class NewNames:
    """What power and province have in common; the classes below tell which."""

    call = None
    other = None
    most = 0

    def new(self, name):
        return type(self).call(name)

    def new_other(self, name):
        return type(self).other(name)

    def test_numbered_in_order(self):
        given = run([self.new("France"), self.new("Italy"), self.new_other("Spain"), self.new("Turkey")])
        self.assertEqual(given, [[0], [1], [0], [2]])

    def test_lengths_of_names(self):
        self.assertEqual(run([self.new("Ab")]), [[0]])
        self.assertEqual(run([self.new("A" + "b" * 15)]), [[0]])
        self.assertEqual(run([self.new("A")]), [[-3]])
        self.assertEqual(run([self.new("A" + "b" * 16)]), [[-3]])
        self.assertEqual(run([self.new("")]), [[-3]])

    def test_no_names(self):
        wrong = ("france", "FRance", "FranCe", "Fran ce", " France", "France ", "Fran-ce", "Fr4nce", "4rance", "#rance")
        edges = ("@a", "[a", "A`", "A{", "Aa`", "Aa{", "`a", "{a", "Az\n", "\nAz", "A\x00", "\xc4b", "A\xe4")
        for name in wrong + edges:
            self.assertEqual(run([self.new(name), self.new("France")]), [[-3], [0]], name)

    def test_edges_of_letters(self):
        self.assertEqual(run([self.new("Az"), self.new("Za"), self.new("Aa"), self.new("Zz")]), [[0], [1], [2], [3]])

    def test_long_rows(self):
        self.assertEqual(run([self.new("A" * 40)]), [[-3]])
        self.assertEqual(run([self.new("A" * 41)]), [[-1]])
        self.assertEqual(run([self.new("A" + "b" * 49)]), [[-1]])

    def test_no_bytes(self):
        for number in (-1, 256, -2 ** 63, 2 ** 63 - 1):
            for name in ([number], [65, number], [65, 98, number], [65] * 39 + [number], [number] * 50):
                self.assertEqual(run([self.new(name), self.new("France")]), [[-1], [0]])
        self.assertEqual(run([self.new([0]), self.new([65, 255]), self.new([65, 0])]), [[-3], [-3], [-3]])

    def test_taken(self):
        given = run([self.new("France"), self.new("France"), self.new_other("Spain"), self.new("Spain"), self.new("Italy")])
        self.assertEqual(given, [[0], [-4], [0], [-4], [1]])

    def test_a_part_of_a_name_is_another_name(self):
        self.assertEqual(run([self.new("France"), self.new("Franc"), self.new("Francea")]), [[0], [1], [2]])

    def test_full(self):
        most = type(self).most
        fill = [self.new(name) for name in many(most)]
        given = run([self.new_other("Other")] + fill + [self.new("More"), self.new_other("Another")])
        self.assertEqual(given, [[0]] + [[k] for k in range(most)] + [[-2], [1]])

    def test_order_of_refusals_when_full(self):
        fill = [self.new(name) for name in many(type(self).most)]
        last = [[65] * 41, [65, 256], "", "more", many(1)[0], "Other", "More"]
        given = run([self.new_other("Other")] + fill + [self.new(name) for name in last])
        self.assertEqual(given[-7:], [[-1], [-1], [-3], [-3], [-4], [-4], [-2]])


class Powers(NewNames, unittest.TestCase):
    call = staticmethod(power)
    other = staticmethod(province)
    most = 7


class Provinces(NewNames, unittest.TestCase):
    call = staticmethod(province)
    other = staticmethod(power)
    most = 40


class Refused(unittest.TestCase):
    def test_a_refused_name_is_not_there(self):
        calls = [power("Spain"), province("Rome"), power("Rome"), province("Spain"), read("Rome will enter Spain")]
        self.assertEqual(run(calls), [[0], [0], [-4], [-4], [1, 1, 1, 2]])
        self.assertEqual(run(calls + [read("Spain will enter Rome"), PRINT])[5:],
                         [[0, 1], printed("Spain will enter Rome\n")])


if __name__ == "__main__":
    unittest.main()
