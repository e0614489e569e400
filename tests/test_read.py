"""read: which lines are promises, and which errors the others have."""

import unittest

from tests.helper import CLEAR, PREVIEW, PRINT, names, power, printed, province, read, run, run_named

DEEDS = ("enter Paris", "support Paris", "support Paris to Vienna", "support Paris to Paris", "hold Vienna", "own London")
SEASONS = ("", " in 1", " in 100", " in 7 to 7", " in 1 to 100", " in 2 to 10", " in 9 to 99")
KINDS_OF_CONDITION = ("kept 1", "broken 1", "Austria does enter Paris", "Britain does not hold London",
                      "France does support Paris", "France does not support Paris to London", "France does own Paris")


def error_of(line):
    """The error of a line that's read on a table with no promises."""
    given = run_named([read(line)])[0]
    if given == [0, 1]:
        return 0
    if given[:3] != [1, 1, 1]:
        raise AssertionError(given)
    return given[3]


class Promises(unittest.TestCase):
    def test_each_form(self):
        for negation in ("", "not "):
            for deed in DEEDS:
                for seasons in SEASONS:
                    for condition in ("",) + KINDS_OF_CONDITION:
                        line = "France will " + negation + deed + seasons + (" if " + condition if condition else "")
                        self.assertEqual(error_of(line), 0, line)

    def test_each_pair_of_conditions(self):
        for one in KINDS_OF_CONDITION:
            for other in KINDS_OF_CONDITION:
                self.assertEqual(error_of("France will own Paris if " + one + " and " + other), 0)

    def test_each_deed_in_a_condition(self):
        for negation in ("", "not "):
            for deed in DEEDS:
                self.assertEqual(error_of("France will own Paris if Austria does " + negation + deed), 0)

    def test_blanks(self):
        line = "   France  will   own Paris    in 3  to   4 if  kept 1  "
        self.assertEqual(run_named([read(line), PRINT]),
                         [[0, 1], printed("France will own Paris in 3 to 4 if kept 1\n")])

    def test_put_behind_in_the_order_of_lines(self):
        calls = [read("France will own Paris"), read("Austria will own Paris\nBritain will own Paris\n"), PRINT]
        self.assertEqual(run_named(calls), [[0, 1], [0, 3], printed(
            "France will own Paris\nAustria will own Paris\nBritain will own Paris\n")])

    def test_the_same_line_twice_is_two_promises(self):
        self.assertEqual(run_named([read("France will own Paris\nFrance will own Paris")]), [[0, 2]])

    def test_names_are_those_told_so_far(self):
        text = read("Spain will own Rome")
        self.assertEqual(run([text, power("Spain"), text, province("Rome"), text]),
                         [[1, 1, 1, 2], [0], [1, 1, 1, 3], [0], [0, 1]])


class SayNothing(unittest.TestCase):
    def test_empty(self):
        self.assertEqual(run([read("")]), [[0, 0]])
        self.assertEqual(run_named([read("France will own Paris"), read("")]), [[0, 1], [0, 1]])

    def test_blank_lines_and_remarks(self):
        text = "\n   \n# France will own\n  #x\n#\nFrance will own Paris\n\n"
        self.assertEqual(run_named([read(text), PRINT]), [[0, 1], printed("France will own Paris\n")])

    def test_a_remark_ends_with_its_line_and_begins_with_it(self):
        self.assertEqual(run_named([read("#\nFrance")]), [[1, 1, 2, 1]])
        self.assertEqual(error_of("France will own Paris #"), 1)
        self.assertEqual(error_of("France #"), 1)

    def test_lines_are_counted_from_1_with_those_that_say_nothing(self):
        self.assertEqual(run_named([read("\n#\nFrance will\n \nNobody will own Paris")]), [[1, 2, 3, 1, 5, 2]])

    def test_wrong_bytes_there(self):
        for number in (0, 9, 11, 13, 31, 127, 128, 255):
            for line in ([35, number], [32, 35, 32, number], [number], [32, 32, number], [number, 35]):
                self.assertEqual(run_named([read(line)]), [[1, 1, 1, 1]], line)
                self.assertEqual(run_named([read(line + [10] + [32])]), [[1, 1, 1, 1]], line)

    def test_right_bytes_there(self):
        self.assertEqual(run_named([read([35] + list(range(32, 127)))]), [[0, 0]])


class Errors(unittest.TestCase):
    def check(self, error, lines):
        for line in lines:
            self.assertEqual(error_of(line), error, line)

    def test_bytes_come_before_all_others(self):
        for number in (0, 9, 13, 31, 127, 128, 255):
            sign = chr(number)
            self.check(1, ["France will own Paris" + sign, sign + "France will own Paris", "Nobody will own Paris " + sign,
                           "France will own Nowhere " + sign, "France will own Paris in 0 " + sign,
                           "France will own Paris in 3 to 2 if" + sign, "France will" + sign + "own Paris",
                           "France will own Paris" + " if kept 1" + " and kept 1" * 6 + sign])

    def test_every_printable_byte_in_a_word(self):
        for number in range(33, 127):
            self.check(1, ["France wi" + chr(number) + "ll own Paris", "France will own Paris x" + chr(number)])
            self.check(2, ["Fran" + chr(number) + "ce will own Paris"])
            self.check(3, ["France will own Par" + chr(number) + "is"])

    def test_missing_words(self):
        whole = "France will not support Paris to Vienna in 3 to 4 if Austria does not support Paris to Vienna and kept 1"
        words = whole.split()
        for count in range(1, len(words)):
            line = " ".join(words[:count])
            ends_well = line.endswith(("support Paris", "Paris to Vienna", "in 3", "to 4"))
            self.check(0 if ends_well else 1, [line])
        self.check(0, [whole])

    def test_words_that_may_not_stand_there(self):
        self.check(1, [
            "France shall own Paris", "France Will own Paris", "France will Not own Paris", "France will not not own Paris",
            "France will take Paris", "France will Paris", "France will own Paris Vienna", "France will own Paris to Vienna",
            "France will enter Paris to Vienna", "France will hold Paris to Vienna", "France will own Paris on 3",
            "France will own Paris 3", "France will own Paris in 3 4", "France will own Paris in 3 till 4",
            "France will own Paris in 3 to 4 to 5", "France will own Paris in 3 in 4", "France will own Paris and kept 1",
            "France will own Paris in 3 and kept 1", "France will own Paris if kept 1 or kept 1",
            "France will own Paris if kept 1 kept 1", "France will own Paris if kept 1 in 3",
            "France will own Paris if kept 1 if kept 1", "France will own Paris if Austria will own Paris",
            "France will own Paris if Austria not own Paris", "France will own Paris if Austria does take Paris",
            "France will own Paris if Austria does not not own Paris", "France will own Paris if Austria does own Paris to Paris",
            "France will own Paris if Austria does own Paris in 3", "France will support Paris to Vienna to Paris",
            "France will own Paris if Austria does kept 1", "France not will own Paris", "France does own Paris",
        ])

    def test_words_missing_at_the_end(self):
        self.check(1, [
            "France", "France will", "France will not", "France will own", "France will support Paris to",
            "France will own Paris in", "France will own Paris in 3 to", "France will own Paris if",
            "France will own Paris if kept", "France will own Paris if broken", "France will own Paris if Austria",
            "France will own Paris if Austria does", "France will own Paris if Austria does not",
            "France will own Paris if Austria does own", "France will own Paris if Austria does support Paris to",
            "France will own Paris if kept 1 and", "France will own Paris if kept 1 and kept",
            "France will own Paris if kept 1 and Austria",
        ])

    def test_a_single_word(self):
        self.check(1, ["France", "Nobody", "will", "  x  ", "kept", "Paris", "1"])

    def test_a_condition_of_the_last_word(self):
        self.check(1, ["France will own Paris if Nobody", "France will own Paris if x", "France will own Paris if kept 1 and Nobody",
                       "France will own Paris if Austria does own Paris and 1", "France will own Paris if does",
                       "France will own Paris in 3 if and"])

    def test_no_power(self):
        self.check(2, ["Nobody will", "Nobody x", "Paris will own Paris", "france will own Paris", "Franc will own Paris",
                       "Francee will own Paris", "will own Paris", "kept 1", "x #", "Nobody will own Nowhere in 0 if x y",
                       "France will own Paris if Nobody does", "France will own Paris if Nobody x",
                       "France will own Paris if Paris does own Paris", "France will own Paris if Kept 1",
                       "France will own Paris if not kept 1", "France will own Paris if does own Paris",
                       "France will own Paris if kept 1 and Nobody does own Paris", "France will own Paris if 1 kept",
                       "France will own Paris if if kept 1", "France will own Paris if kept 1 and and kept 1"])

    def test_no_province(self):
        for start in ("France will ", "France will not ", "France will own Paris if Austria does ",
                      "France will own Paris if kept 1 and Austria does not "):
            for deed in ("enter x", "support x", "hold x", "own x", "own Nowhere", "own France", "own paris", "own Pari",
                         "own Pariss", "own not", "own in 3", "own if", "support to Paris", "support Paris to x",
                         "support Paris to France", "support x to y", "support Paris to if kept 0", "own x y z"):
                self.check(3, [start + deed])

    def test_no_season(self):
        for number in ("0", "101", "999", "1000", "00", "01", "001", "0100", "-1", "+1", "1.", "1a", "a", "x", "#", "1,", "1_0",
                       "to", "if", "99999999999999999999"):
            self.check(4, ["France will own Paris in " + number, "France will own Paris in 1 to " + number,
                           "France will own Paris in " + number + " to 5 if x y", "France will own Paris in 1 to " + number + " x"])

    def test_seasons_at_their_edges(self):
        self.check(0, ["France will own Paris in 1", "France will own Paris in 100", "France will own Paris in 1 to 1",
                       "France will own Paris in 99 to 100", "France will own Paris in 100 to 100"])
        self.check(4, ["France will own Paris in 2 to 1", "France will own Paris in 100 to 99", "France will own Paris in 10 to 9",
                       "France will own Paris in 2 to 1 x", "France will own Paris in 2 to 1 if Nobody does own Paris"])

    def test_no_promise_number(self):
        for number in ("0", "2", "24", "25", "100", "1000", "01", "001", "-1", "1x", "x", "and", "kept"):
            for word in ("kept ", "broken "):
                self.check(4, ["France will own Paris if " + word + number, "France will own Paris if kept 1 and " + word + number,
                               "France will own Paris if " + word + number + " x", "France will own Paris if " + word + number + " and"])

    def test_the_first_from_the_left(self):
        self.check(2, ["Nobody shall take Nowhere in 0 to x if kept 0"])
        self.check(1, ["France shall take Nowhere in 0 to x if kept 0", "France will take Nowhere in 0 to x if kept 0"])
        self.check(3, ["France will own Nowhere in 0 to x if kept 0", "France will own Nowhere x"])
        self.check(4, ["France will own Paris in 0 to x if Nobody does", "France will own Paris in 2 to 1 if"])
        self.check(2, ["France will own Paris in 1 to 2 if Nobody does own Nowhere"])
        self.check(1, ["France will own Paris x 0 if Nobody does own Nowhere"])
        self.check(3, ["France will own Paris if Austria does own Nowhere and kept 0"])
        self.check(4, ["France will own Paris if kept 0 and Austria does own Nowhere"])


class SixConditions(unittest.TestCase):
    def line(self, conditions, behind=""):
        return "France will own Paris in 3 if " + " and ".join(conditions) + behind

    def test_six_are_taken(self):
        for last in KINDS_OF_CONDITION:
            line = self.line(["kept 1"] * 5 + [last])
            self.assertEqual(run_named([read(line), PRINT]), [[0, 1], printed(line + "\n")])

    def test_an_and_behind_the_sixth(self):
        for last in KINDS_OF_CONDITION:
            for behind in (" and", " and kept 1", " and kept 0", " and x", " and Nobody does", " and and", " and kept 1 and kept 1"):
                self.assertEqual(error_of(self.line(["broken 1"] * 5 + [last], behind)), 5, behind)

    def test_an_and_behind_the_fifth_without_words(self):
        self.assertEqual(error_of(self.line(["kept 1"] * 5, " and")), 1)

    def test_errors_to_the_left_come_first(self):
        self.assertEqual(error_of(self.line(["kept 1"] * 5 + ["kept 2"], " and")), 4)
        self.assertEqual(error_of(self.line(["Nobody does own Paris"] + ["kept 1"] * 5, " and kept 1")), 2)
        self.assertEqual(error_of(self.line(["kept 1"] * 5 + ["France does own x"], " and kept 1")), 3)
        self.assertEqual(error_of(self.line(["kept 1"] * 6, " or kept 1")), 1)
        self.assertEqual(error_of(self.line(["kept 1"] * 6, " x and")), 1)


class Most(unittest.TestCase):
    def promises(self, count):
        return "France will own Paris\n" * count

    def asks(self, number):
        return "Austria will hold Vienna if kept " + str(number)

    def test_lines_of_the_text_count_before_and_behind(self):
        self.assertEqual(run_named([read(self.asks(3) + "\n" + self.promises(2))]), [[0, 3]])
        self.assertEqual(run_named([read(self.promises(2) + self.asks(3))]), [[0, 3]])
        self.assertEqual(run_named([read(self.asks(4) + "\n" + self.promises(2))]), [[1, 1, 1, 4]])

    def test_lines_that_say_nothing_do_not_count(self):
        self.assertEqual(run_named([read("#\n \n\n" + self.asks(2) + "\n#")]), [[1, 1, 4, 4]])
        self.assertEqual(run_named([read("#\n \n\n" + self.asks(1) + "\n#")]), [[0, 1]])
        self.assertEqual(run_named([read(self.asks(2) + "\n#\x01")]), [[1, 2, 1, 4, 2, 1]])

    def test_wrong_lines_count(self):
        self.assertEqual(run_named([read(self.asks(4) + "\nx\n\x01\nFrance will")]), [[1, 3, 2, 1, 3, 1, 4, 1]])
        self.assertEqual(run_named([read(self.asks(5) + "\nx\n\x01\nFrance will")]), [[1, 4, 1, 4, 2, 1, 3, 1, 4, 1]])

    def test_promises_before_count(self):
        self.assertEqual(run_named([read(self.promises(5)), read(self.asks(6))]), [[0, 5], [0, 6]])
        self.assertEqual(run_named([read(self.promises(5)), read(self.asks(7))]), [[0, 5], [1, 1, 1, 4]])
        self.assertEqual(run_named([read(self.promises(5)), read(self.asks(1))]), [[0, 5], [0, 6]])

    def test_24(self):
        self.assertEqual(run_named([read(self.promises(23) + self.asks(24))]), [[0, 24]])
        self.assertEqual(run_named([read(self.promises(23) + self.asks(25))]), [[1, 1, 24, 4]])
        self.assertEqual(run_named([read(self.promises(22) + self.asks(24))]), [[1, 1, 23, 4]])
        self.assertEqual(run_named([read(self.promises(23)), read(self.asks(24))]), [[0, 23], [0, 24]])
        self.assertEqual(run_named([read(self.promises(23)), read(self.asks(25))]), [[0, 23], [1, 1, 1, 4]])

    def test_never_more_than_24(self):
        self.assertEqual(run_named([read(self.promises(24) + self.asks(25))]), [[1, 1, 25, 4]])
        self.assertEqual(run_named([read(self.promises(24) + self.asks(24))]), [[-2]])
        self.assertEqual(run_named([read(self.promises(24)), read(self.asks(25))]), [[0, 24], [1, 1, 1, 4]])
        self.assertEqual(run_named([read(self.promises(24)), read(self.asks(24))]), [[0, 24], [-2]])


class Refusals(unittest.TestCase):
    def test_long_texts(self):
        self.assertEqual(run([read(" " * 2000)]), [[0, 0]])
        self.assertEqual(run([read(" " * 2001)]), [[-1]])
        self.assertEqual(run([read("x" * 2100)]), [[-1]])
        self.assertEqual(run([read("\n" * 2000)]), [[0, 0]])

    def test_no_bytes(self):
        for number in (-1, 256, -2 ** 63, 2 ** 63 - 1):
            for text in ([number], [35, number], [120, 10, number], [32] * 1999 + [number], [32] * 2099 + [number]):
                self.assertEqual(run_named([read(text)]), [[-1]])

    def test_more_than_24(self):
        line = "France will own Paris\n"
        self.assertEqual(run_named([read(line * 24), read(line), read("#"), PREVIEW])[:3], [[0, 24], [-2], [0, 24]])
        self.assertEqual(run_named([read(line * 25), read(line * 2), read(line * 23), read(line * 22)]),
                         [[-2], [0, 2], [-2], [0, 24]])

    def test_wrong_lines_are_told_where_there_are_too_many_as_well(self):
        self.assertEqual(run_named([read("France will own Paris\n" * 25 + "x")]), [[1, 1, 26, 1]])

    def test_nothing_changes(self):
        good = "France will own Paris\nAustria will hold Vienna if kept 1\n"
        before = [0, 2], printed(good)
        for text in (good + "x", "x\n" + good, good * 12, [35, 256], " " * 2001):
            given = run_named([read(good), read(text), PRINT, read("Britain will own London if broken 3")])
            self.assertEqual((given[0], given[2]), before)
            self.assertEqual(given[3], [0, 3])

    def test_the_first_20_wrong_lines(self):
        for count in (19, 20, 21, 40):
            told = min(count, 20)
            expected = [1, told]
            for line in range(2, told + 2):
                expected += [line, 1]
            self.assertEqual(run_named([read("#\n" + "\n".join(["x"] * count))]), [expected])

    def test_right_lines_between_wrong_ones(self):
        lines = ["France will own Paris" if k % 2 == 0 else "Nobody will" for k in range(50)]
        expected = [1, 20]
        for k in range(20):
            expected += [2 * k + 2, 2]
        self.assertEqual(run_named([read("\n".join(lines))]), [expected])

    def test_each_error_in_one_text(self):
        text = "x\nNobody will\nFrance will own x\nFrance will own Paris in 0\nFrance will own Paris if kept 1" + " and kept 1" * 6
        self.assertEqual(run_named([read(text)]), [[1, 5, 1, 1, 2, 2, 3, 3, 4, 4, 5, 5]])

    def test_after_clear(self):
        self.assertEqual(run(names() + [CLEAR, read("France will own Paris")])[-1], [1, 1, 1, 2])


if __name__ == "__main__":
    unittest.main()
