"""Many lists of calls, held against a second, plain telling of the document, and against what it promises."""

import random
import unittest

from branchcaches.caches import answer_from, answers
from branchcaches.call_reader import Reader
from branchcaches.house_state import House
from callforms import (
    all_of, begins, closes, find, joined, list_of, opens, parted, pass_days, row_of, save, share, state, would,
)

KEYS = ["a", "b", "c", "a/b", "x-1", "x.2", "0", "", "A", "z" * 24, "z" * 25]
BEGINNINGS = ["", "k", "k1", "k2", "k3", "k4", "a", "a/", "x", "x-", "zz", "z" * 24] * 5 + ["K", "z" * 25]
SIGNS = set("abcdefghijklmnopqrstuvwxyz0123456789-./")


class Telling:
    """Branches as [number, parent, share], entries as [branch, key, size, content, day], in the order of saving.

    lately holds the same entries in the order in which they were last used.
    """

    def __init__(self):
        self.begins(100, 7, 0)

    def begins(self, room, life, part):
        if not (1 <= room <= 1000000 and life <= 1000000 and part <= room):
            return [-1]
        self.room, self.life, self.day = room, life, 0
        self.branches, self.entries, self.lately = [[0, 0, part]], [], []
        return [0]

    def branch(self, number):
        return next((row for row in self.branches if row[0] == number), None)

    def held(self, number):
        return [row for row in self.entries if row[0] == number]

    def take_out(self, going):
        self.entries = [row for row in self.entries if all(row is not gone for gone in going)]
        self.lately = [row for row in self.lately if all(row is not gone for gone in going)]
        return [len(going)] + [row[3] for row in going]

    def use(self, used):
        self.lately = [row for row in self.lately if row is not used] + [used]
        used[4] = self.day

    def opens(self, number, parent, part):
        if self.branch(number):
            return [-4]
        if not self.branch(parent):
            return [-2]
        if sum(row[2] for row in self.branches) + part > self.room:
            return [-1]
        if len(self.branches) == 8:
            return [-7]
        self.branches.append([number, parent, part])
        return [len(self.branches)]

    def closes(self, number):
        gone = self.branch(number)
        if not gone:
            return [-2]
        if number == 0:
            return [-3]
        self.branches = [[row[0], gone[1] if row[1] == number else row[1], row[2]]
                         for row in self.branches if row is not gone]
        return self.take_out(self.held(number))

    def share(self, number, part):
        if not self.branch(number):
            return [-2]
        if sum(row[2] for row in self.branches if row[0] != number) + part > self.room:
            return [-1]
        self.branch(number)[2] = part
        return [0]

    def givers(self, number, size):
        """The entries that have to go, or None."""
        left, went = list(self.lately), []
        while sum(row[2] for row in left) + size > self.room:
            holders = {row[0] for row in left}
            above = {
                row[0]: sum(each[2] for each in left if each[0] == row[0]) + (size if row[0] == number else 0) - row[2]
                for row in self.branches
            }
            able = [(-above[each], each) for each in holders if above[each] > 0]
            if not able:
                return None
            giver = min(able)[1]
            went.append(next(row for row in left if row[0] == giver))
            left = [row for row in left if row is not went[-1]]
        return went

    def save(self, number, size, content, key):
        if not self.branch(number):
            return [-2]
        if not 1 <= size <= self.room:
            return [-1]
        if not 1 <= len(key) <= 24 or set(key) - SIGNS:
            return [-5]
        if any(row[1] == key for row in self.held(number)):
            return [-4]
        if len(self.entries) == 40:
            return [-7]
        going = self.givers(number, size)
        if going is None:
            return [-6]
        answer = self.take_out(going)
        self.entries.append([number, key, size, content, self.day])
        self.use(self.entries[-1])
        return answer

    def would(self, number, size):
        if not self.branch(number):
            return [-2]
        if not 1 <= size <= self.room:
            return [-1]
        going = self.givers(number, size)
        return [-6] if going is None else [len(going)] + [row[3] for row in going]

    def find(self, number, key, *beginnings):
        if not self.branch(number):
            return [-2]
        if not key or len(beginnings) > 4 or any(len(row) > 24 or set(row) - SIGNS for row in (key,) + beginnings):
            return [-5]
        asker = number
        while True:
            fits = [(0, row) for row in self.held(number) if row[1] == key]
            for way, beginning in enumerate(beginnings, start=1):
                fits += [(way, row) for row in reversed(self.held(number)) if row[1].startswith(beginning)]
            if fits:
                way, entry = fits[0]
                if entry[0] == asker:
                    self.use(entry)
                return [way, entry[0], entry[3], entry[2]] + row_of(entry[1])
            if number == 0:
                return [-8]
            number = self.branch(number)[1]

    def pass_days(self, days):
        if days == 0 or self.day + days > 1000000:
            return [-1]
        self.day += days
        return self.take_out([row for row in self.entries if row[4] + self.life < self.day])

    def list_of(self, number):
        if not self.branch(number):
            return [-2]
        held = self.held(number)
        return [len(held), sum(row[2] for row in held)] + joined([[row[3], row[2], row[4]] for row in held])

    def state(self):
        rows = [row + [sum(entry[2] for entry in self.held(row[0]))] for row in self.branches]
        return [len(rows)] + joined(rows)


FORMS = {
    "begins": begins, "opens": opens, "closes": closes, "share": share, "save": save, "find": find, "would": would,
    "pass_days": pass_days, "list_of": list_of, "state": state,
}
OFTEN = {
    "begins": 1, "opens": 18, "closes": 4, "share": 9, "save": 60, "find": 30, "would": 8, "pass_days": 5, "list_of": 6,
    "state": 4,
}


def drawn_call(source, room):
    branch = source.randrange(10)
    near = source.choice([0, branch])
    some = source.choice([0, 1, room, room + 1, source.randrange(room + 1), source.randrange(room // 4 + 1)])
    tight = source.randrange(1, 4)
    size = source.choice([tight, tight, tight, some, source.randrange(room // 4 + 1)])
    key = source.choice(KEYS + [f"k{source.randrange(60)}"] * 20)
    kind = source.choices(list(OFTEN), list(OFTEN.values()))[0]
    values = {
        "begins": (source.choice([0, 1, 20, 100, 1000001]), source.choice([0, 1, 7, 1000001]), source.randrange(25)),
        "opens": (branch, source.choice([0, 0, source.randrange(10)]), some // source.choice([1, 4, 8])),
        "closes": (branch,),
        "share": (branch, some),
        "save": (near, size, source.randrange(1000), key),
        "find": (branch, key) + tuple(source.choices(BEGINNINGS, k=source.choice([0, 1, 2, 2, 3, 3, 4, 4, 5, 6]))),
        "would": (near, size),
        "pass_days": (source.choice([0, 1, 1, 2, 3, 4, 7, 8, 999990, 1000001]),),
        "list_of": (branch,),
        "state": (),
    }
    return kind, values[kind]


def drawn_small_save(source):
    """Only small entries fill a house up to 40 of them."""
    return "save", (0, source.randrange(1, 3), source.randrange(1000), f"k{source.randrange(1000)}")


class ManyLists(unittest.TestCase):
    def test_same_answers(self):
        source = random.Random(94)
        seen = set()
        for turn in range(1500):
            telling = Telling()
            calls, expected = [], []
            for step in range(source.randrange(1, 61)):
                small = turn % 3 == 0 and source.random() < 0.9
                kind, values = drawn_small_save(source) if small else drawn_call(source, telling.room)
                calls.append(FORMS[kind](*values))
                expected.append(getattr(telling, kind)(*values))
                seen.add((kind, min(expected[-1][0], 2)))
            self.assertEqual(parted(answers(joined(calls))), expected, calls)
        refused = [("begins", -1), ("opens", -4), ("opens", -2), ("opens", -1), ("opens", -7), ("closes", -2),
                   ("closes", -3), ("share", -2), ("share", -1), ("save", -2), ("save", -1), ("save", -5), ("save", -4),
                   ("save", -7), ("save", -6), ("would", -2), ("would", -1), ("would", -6), ("find", -2), ("find", -5),
                   ("find", -8), ("pass_days", -1), ("list_of", -2)]
        self.assertEqual(sorted(row for row in seen if row[1] < 0), sorted(refused))
        for kind in ("closes", "save", "find", "would", "pass_days", "list_of"):
            for number in (0, 1, 2):
                self.assertIn((kind, number), seen)

    def test_house_keeps_its_bounds_and_nobody_loses_within_their_share(self):
        source = random.Random(2)
        for turn in range(500):
            house = House()
            for step in range(60):
                kind, values = drawn_call(source, house.room)
                before, all_before = sizes(house), all_of(house)
                answer = answer_from(house, Reader(FORMS[kind](*values)))
                self.assertLessEqual(sum(sizes(house).values()), house.room)
                self.assertLessEqual(sum(branch.share for branch in house.branches.values()), house.room)
                self.assertLessEqual(len(house.entries), 40)
                self.assertLessEqual(len(house.branches), 8)
                if answer[0] < 0 or kind in ("would", "list_of", "state"):
                    self.assertEqual(all_of(house), all_before)
                if kind == "save" and answer[0] > 0:
                    self.check_losses(house, values[0], before)

    def check_losses(self, house, saver, before):
        for number, size in sizes(house).items():
            if number != saver and before[number] <= house.branches[number].share:
                self.assertEqual(size, before[number])


def sizes(house):
    return {
        number: sum(entry.size for entry in house.entries if entry.branch == number) for number in house.branches
    }


if __name__ == "__main__":
    unittest.main()
