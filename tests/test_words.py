"""The program beside a slow, literal reading of the document's words, over many lines of mixed calls."""

import random
import unittest

from tests.helper import (
    CHAIN, FULL, HUGE, KIND, LIMIT, NONE, PLATFORM, SETTING, TWICE, VALUE, alike, choose, fits, idle, joined, places,
    platform, rank, resolve, served, setting, taken_apart, toolchain, value, why,
)
from toolchoice.desk import answers


class Refused(Exception):
    pass


def refuse(when, refusal):
    if when:
        raise Refused(refusal)


class Words:
    def __init__(self):
        self.settings, self.platforms, self.toolchains, self.ranking, self.places = [], [], [], [], []

    def look_pairs(self, row):
        refuse(len(row) > 64 or len(row) % 2, LIMIT)
        for at in range(0, len(row), 2):
            refuse(row[at] not in range(len(self.settings)), SETTING)
            refuse(row[at + 1] not in range(self.settings[row[at]][0]), VALUE)

    def look_list(self, row, known, refusal):
        refuse(len(row) > 64, LIMIT)
        for number in row:
            refuse(number not in known, refusal)
        refuse(any(row.count(number) > 1 for number in row), TWICE)

    def value(self, p, s):
        parent, own = self.platforms[p]
        for at in range(0, len(own), 2):
            if own[at] == s:
                return own[at + 1]
        if parent != -1:
            return self.value(parent, s)
        return None if self.settings[s][1] == -1 else self.settings[s][1]

    def unmet(self, p, need):
        pairs = [(need[at], need[at + 1]) for at in range(0, len(need), 2)]
        return [s for s, v in pairs if self.value(p, s) is None or (s, self.value(p, s)) not in pairs]

    def fits(self, t, place, target):
        return not self.unmet(place, self.toolchains[t][1]) and not self.unmet(target, self.toolchains[t][2])

    def chosen(self, kind, place, target):
        for t in self.ranking:
            if self.toolchains[t][0] == kind and self.fits(t, place, target):
                return t
        return None

    def on_setting(self, count, default):
        refuse(not 1 <= count <= 16 or not -1 <= default <= count - 1, LIMIT)
        refuse(len(self.settings) == 16, FULL)
        self.settings.append((count, default))
        return [len(self.settings) - 1]

    def on_platform(self, parent, own):
        refuse(parent != -1 and parent not in range(len(self.platforms)), PLATFORM)
        self.look_pairs(own)
        refuse(any(own[0::2].count(s) > 1 for s in own[0::2]), TWICE)
        refuse(len(self.platforms) == 16, FULL)
        self.platforms.append((parent, own))
        return [len(self.platforms) - 1]

    def on_toolchain(self, kind, first, second):
        refuse(kind not in range(32), KIND)
        self.look_pairs(first)
        self.look_pairs(second)
        refuse(len(self.toolchains) == 32, FULL)
        self.toolchains.append((kind, first, second))
        return [len(self.toolchains) - 1]

    def on_rank(self, row):
        self.look_list(row, range(len(self.toolchains)), CHAIN)
        self.ranking = row
        return [0]

    def on_places(self, row):
        self.look_list(row, range(len(self.platforms)), PLATFORM)
        self.places = row
        return [0]

    def on_value(self, p, s):
        refuse(p not in range(len(self.platforms)), PLATFORM)
        refuse(s not in range(len(self.settings)), SETTING)
        return [0] if self.value(p, s) is None else [1, self.value(p, s)]

    def on_fits(self, t, place, target):
        refuse(t not in range(len(self.toolchains)), CHAIN)
        refuse(place not in range(len(self.platforms)), PLATFORM)
        refuse(target not in range(len(self.platforms)), PLATFORM)
        if self.fits(t, place, target):
            return [0]
        unmet = self.unmet(place, self.toolchains[t][1])
        return [1, unmet[0]] if unmet else [2, self.unmet(target, self.toolchains[t][2])[0]]

    def lacks(self, kinds, place, target):
        return [kind for kind in kinds if self.chosen(kind, place, target) is None]

    def on_choose(self, kind, place, target):
        refuse(kind not in range(32), KIND)
        refuse(place not in range(len(self.platforms)), PLATFORM)
        refuse(target not in range(len(self.platforms)), PLATFORM)
        t = self.chosen(kind, place, target)
        return [0] if t is None else [1, t]

    def on_resolve(self, target, kinds, wishes):
        refuse(target not in range(len(self.platforms)), PLATFORM)
        self.look_list(kinds, range(32), KIND)
        self.look_list(wishes, range(32), KIND)
        served_places = [place for place in self.places if not self.lacks(kinds, place, target)]
        refuse(not served_places, NONE)
        told = [served_places[0]]
        for kind in kinds:
            told.append(self.chosen(kind, told[0], target))
        for wish in wishes:
            t = self.chosen(wish, told[0], target)
            told.append(-1 if t is None else t)
        return told

    def on_why(self, target, kinds):
        refuse(target not in range(len(self.platforms)), PLATFORM)
        self.look_list(kinds, range(32), KIND)
        told = [0]
        for place in self.places:
            told += [place, (self.lacks(kinds, place, target) + [-1])[0]]
        return told

    def on_served(self, kinds):
        self.look_list(kinds, range(32), KIND)
        targets = range(len(self.platforms))
        return [0] + [target for target in targets if any(not self.lacks(kinds, p, target) for p in self.places)]

    def on_alike(self, p, q):
        refuse(p not in range(len(self.platforms)), PLATFORM)
        refuse(q not in range(len(self.platforms)), PLATFORM)
        return [int(all(self.value(p, s) == self.value(q, s) for s in range(len(self.settings))))]

    def on_idle(self, kinds):
        self.look_list(kinds, range(32), KIND)
        told = [0]
        for t in self.ranking:
            kind = self.toolchains[t][0]
            ends = [(place, target) for place in self.places for target in range(len(self.platforms))]
            if kind in kinds and all(self.chosen(kind, place, target) != t for place, target in ends):
                told.append(t)
        return told

    def told(self, name, handed):
        try:
            return getattr(self, "on_" + name)(*handed)
        except Refused as refused:
            return [refused.args[0]]


class Line:
    """Calls drawn by lot, mostly such as are not refused, as numbers and as names with what is handed in."""

    def __init__(self, seed):
        self.lot = random.Random(seed)
        self.wrong = self.lot.choice((0, 0.02, 0.2))
        self.counts = [self.lot.choice((1, 2, 2, 3, 16)) for _ in range(self.lot.choice((1, 2, 4, 17)))]
        self.most_platforms = self.lot.choice((1, 3, 6, 17))
        self.most_toolchains = self.lot.choice((1, 4, 9, 33))

    def number(self, bound):
        if self.lot.random() < self.wrong:
            return self.lot.choice((-HUGE, -2, -1, bound, bound + 1, HUGE))
        return self.lot.randrange(max(bound, 1))

    def pairs(self, most, own=False):
        settings = [self.number(len(self.counts)) for _ in range(self.lot.randrange(most + 1))]
        if own and self.lot.random() >= self.wrong:
            settings = list(dict.fromkeys(settings))
        row = []
        for s in settings:
            row += [s, self.number(self.counts[s] if 0 <= s < len(self.counts) else 2)]
        if self.lot.random() < self.wrong:
            row = self.lot.choice((row[:-1], (row + [0] * 66)[:self.lot.choice((64, 65, 66))]))
        return row

    def order(self, bound):
        row = self.lot.sample(range(bound), self.lot.randrange(bound // 2, bound + 1))
        if self.lot.random() < self.wrong:
            row = self.lot.choice((row + row, row + [bound], [-1] + row, [0] * 64, [0] * 65))
        return row

    def kinds(self):
        row = self.lot.sample((0, 7, 31), self.lot.randrange(4))
        if self.lot.random() < 0.1:
            row.insert(self.lot.randrange(len(row) + 1), 5)
        if self.lot.random() < self.wrong:
            row = self.lot.choice((row + row, row + [32], [-1] + row, [HUGE], [7] * 64, [7] * 65, [-HUGE] * 100))
        return row

    def built(self):
        for count in self.counts:
            yield setting, (count, self.number(count) if self.lot.random() < 0.4 else -1)
        for number in range(self.most_platforms):
            parent = self.number(number) if number and self.lot.random() < 0.6 else -1
            yield platform, (parent, self.pairs(len(self.counts), own=True))
        for _ in range(self.most_toolchains):
            kind = self.lot.choice((0, 0, 7, 31)) if self.lot.random() >= self.wrong else self.number(32)
            yield toolchain, (kind, self.pairs(3), self.pairs(3))

    def asked(self):
        for _ in range(6):
            yield rank, (self.order(min(self.most_toolchains, 32)),)
            yield places, (self.order(min(self.most_platforms, 16)),)
            yield idle, (self.kinds(),)
            yield served, (self.kinds(),)
            for _ in range(5):
                ends = [self.number(self.most_platforms) for _ in range(2)]
                yield value, (ends[0], self.number(len(self.counts)))
                yield fits, (self.number(self.most_toolchains), *ends)
                yield choose, (self.number(32) if self.lot.random() < 0.1 else self.lot.choice((0, 7, 31)), *ends)
                yield resolve, (ends[0], self.kinds(), self.kinds())
                yield why, (ends[1], self.kinds())
                yield alike, ends

    def calls(self):
        calls = list(self.built())
        if self.wrong == 0.2:
            self.lot.shuffle(calls)
        return calls + list(self.asked())


def as_numbers(call, handed):
    return call(*handed[0]) if call in (rank, places, served, idle) else call(*handed)


class WordsTest(unittest.TestCase):
    def test_many_lines(self):
        for seed in range(300):
            calls = Line(seed).calls()
            words = Words()
            asked = [words.told(call.__name__, handed) for call, handed in calls]
            told = taken_apart(answers(joined([as_numbers(call, handed) for call, handed in calls])))
            self.assertEqual(len(told), len(calls), seed)
            for at, (call, handed) in enumerate(calls):
                self.assertEqual(told[at], asked[at], (seed, at, call.__name__, handed))


if __name__ == "__main__":
    unittest.main()
