"""A line of calls drawn at random, with what each is to answer, kept in step with the document's words."""

from tests.by_the_words import ByTheWords
from tests.drawing import by_the_facts, line_of, pact_of, some_deed, some_promise
from tests.helper import CLEAR, FACTS, FIRST, JUDGE, NOW, PREVIEW, PRINT, blame, fact, pact, power, province, read, row, verdict

NAMES = ("Austria", "Britain", "Paris", "Vienna", "Rome", "Aa", "Zzzzzzzzzzzzzzzz")
NO_NAMES = ("", "rome", "A", "ROme", "A" + "b" * 16, [65, 0], [65, 255])
NO_BYTES = ([256], [65, -1], [2 ** 63 - 1], [65] * 41)
FAR = (-2 ** 63, -1, 101, 2 ** 63 - 1)

# More promises than these make the oracle slow.
MOST_PROMISES = 5


class Story:
    def __init__(self, source):
        self.source = source
        self.told = []
        self.begin()

    def begin(self):
        self.powers, self.provinces, self.promises = [], [], []
        self.season, self.facts, self.rows = 1, [], []

    def tell(self, call, answer):
        self.told.append((call, answer))

    def clear(self):
        self.begin()
        self.tell(CLEAR, [0])

    def new_name(self, call, own):
        draw = self.source.random()
        if draw < 0.1:
            self.tell(call(self.source.choice(NO_BYTES)), [-1])
        elif draw < 0.2:
            self.tell(call(self.source.choice(NO_NAMES)), [-3])
        else:
            name = self.source.choice(NAMES)
            taken = name in self.powers + self.provinces
            if not taken:
                own.append(name)
            self.tell(call(name), [-4] if taken else [len(own) - 1])

    def power(self):
        self.new_name(power, self.powers)

    def province(self):
        self.new_name(province, self.provinces)

    def read(self):
        if self.source.random() < 0.2:
            self.read_wrong()
            return
        room = MOST_PROMISES - len(self.promises)
        count = self.source.randint(0, room) if self.powers and self.provinces else 0
        most = len(self.promises) + count
        new = [some_promise(self.source, len(self.powers), len(self.provinces), most) for k in range(count)]
        lines = [line_of(promise, self.powers, self.provinces) for promise in new]
        lines.insert(self.source.randint(0, count), self.source.choice(["", "  ", "# France will own"]))
        self.promises += new
        self.tell(read("\n".join(lines)), [0, len(self.promises)])

    def read_wrong(self):
        text, answer = self.source.choice([
            ("x", [1, 1, 1, 1]), ("#\nNobody will\n\x01", [1, 2, 2, 2, 3, 1]), ([35, 256], [-1]), (" " * 2001, [-1])])
        self.tell(read(text), answer)

    def print(self):
        self.tell(PRINT, row("".join([line_of(promise, self.powers, self.provinces) + "\n" for promise in self.promises])))

    def fact(self):
        if not self.powers or not self.provinces:
            self.tell(fact(0, 0, 0), [-1])
        elif self.source.random() < 0.15:
            place = self.source.randrange(4)
            ends = len(self.powers), 5, len(self.provinces), len(self.provinces)
            told = [0, 2, 0, 0]
            told[place] = self.source.choice([-1, ends[place], 2 ** 63 - 1])
            self.tell(fact(*told), [-1])
        else:
            self.new_fact((self.source.randrange(len(self.powers)), *some_deed(self.source, len(self.provinces))))

    def new_fact(self, told):
        if told[1] != 2 and len(self.provinces) > 1 and self.source.random() < 0.1:
            self.tell(fact(*told[:3], 1), [-3])
        elif told in self.facts:
            self.tell(fact(*told), [-4])
        else:
            self.facts.append(told)
            self.tell(fact(*told), [len(self.facts)])

    def verdicts(self):
        cases = [(n, verdict) for row in self.rows for n, verdict in enumerate(row, start=1)]
        sure = {n for n, verdict in cases if verdict == 2}
        possible = {n for n, verdict in cases if verdict in (2, 3)}
        promises = [by_the_facts(promise, self.season, self.facts) for promise in self.promises]
        return ByTheWords(promises, sure, possible).verdicts()

    def preview(self):
        self.tell(PREVIEW, row(self.verdicts()))

    def judge(self):
        if self.season == 100:
            self.tell(JUDGE, [-5])
            return
        verdicts = self.verdicts()
        self.tell(JUDGE, [self.season] + row(verdicts))
        self.season, self.facts, self.rows = self.season + 1, [], self.rows + [verdicts]

    def verdict(self):
        season = self.source.choice([0, 100, self.source.choice(FAR)] + list(range(1, self.season + 1)) * 3)
        if not 1 <= season <= 100:
            self.tell(verdict(season), [-1])
        elif season >= self.season:
            self.tell(verdict(season), [-6])
        else:
            self.tell(verdict(season), row(self.rows[season - 1]))

    def broken(self):
        return [(k, n) for k, verdicts in enumerate(self.rows, start=1) for n, given in enumerate(verdicts, start=1) if given == 2]

    def first(self):
        first = min([season for season, n in self.broken()], default=0)
        self.tell(FIRST, [first] + row([n for season, n in self.broken() if season == first]))

    def blame(self):
        number = self.source.choice([self.source.choice(FAR), len(self.powers)] + list(range(len(self.powers))) * 4)
        if not 0 <= number < len(self.powers):
            self.tell(blame(number), [-1])
            return
        seasons = [season for season, n in self.broken() if self.promises[n - 1].power == number]
        self.tell(blame(number), [min(seasons, default=0), len(seasons)])

    def pact(self):
        number = self.source.choice([0, self.source.choice(FAR), len(self.promises) + 1] + list(range(1, len(self.promises) + 1)) * 2)
        there = 1 <= number <= len(self.promises)
        self.tell(pact(number), pact_of(self.promises[number - 1]) if there else [-1])

    def list_facts(self):
        self.tell(FACTS, [len(self.facts)] + [number for told in sorted(self.facts) for number in told])

    def now(self):
        self.tell(NOW, [self.season, len(self.promises), len(self.facts)])

    def tell_each_call_once(self):
        """Tell all fourteen calls, clear the last."""
        for call in (self.power, self.province, self.read, self.print, self.fact, self.preview, self.judge, self.verdict,
                     self.first, self.blame, self.pact, self.list_facts, self.now, self.clear):
            call()

    def tell_some(self, count):
        """Tell so many calls; clear is rare among them, and names come early, so that there's something to judge."""
        often = [self.read, self.fact, self.fact, self.fact, self.preview, self.judge, self.judge, self.verdict, self.first,
                 self.blame, self.pact, self.list_facts, self.now]
        for place in range(count):
            few = len(self.powers) < 2 or len(self.provinces) < 2
            self.source.choice([self.power, self.province] * (6 if few else 1) + often * 2)()
            if self.source.random() < 0.015:
                self.clear()
            elif self.source.random() < 0.1:
                self.print()
