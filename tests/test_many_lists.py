"""Many lists of calls, held against a second, plain telling of the document, and against what it promises."""

import random
import unittest

from branchcaches.caches import answer_from, answers
from branchcaches.call_reader import Reader
from branchcaches.house_state import House
from callforms import begins, closes, joined, opens, parted, save, share

KEYS = ["a", "b", "c", "a/b", "x-1", "x.2", "0", "", "A", "z" * 24, "z" * 25]


class Telling:
    """Branches as [number, parent, share], entries as [branch, key, size, content], in the order of saving."""

    def __init__(self):
        self.begins(100, 7, 0)

    def begins(self, room, life, part):
        if not (1 <= room <= 1000000 and life <= 1000000 and part <= room):
            return [-1]
        self.room, self.branches, self.entries = room, [[0, 0, part]], []
        return [0]

    def branch(self, number):
        return next((row for row in self.branches if row[0] == number), None)

    def opens(self, number, parent, part):
        if self.branch(number):
            return [-4]
        if not self.branch(parent):
            return [-2]
        if sum(row[2] for row in self.branches) + part > self.room:
            return [-1]
        if len(self.branches) == 8:
            return [-7]
        self.branches.append([number, parent, part])
        return [len(self.branches)]

    def closes(self, number):
        gone = self.branch(number)
        if not gone:
            return [-2]
        if number == 0:
            return [-3]
        self.branches = [[row[0], gone[1] if row[1] == number else row[1], row[2]]
                         for row in self.branches if row is not gone]
        went = [row[3] for row in self.entries if row[0] == number]
        self.entries = [row for row in self.entries if row[0] != number]
        return [len(went)] + went

    def share(self, number, part):
        if not self.branch(number):
            return [-2]
        if sum(row[2] for row in self.branches if row[0] != number) + part > self.room:
            return [-1]
        self.branch(number)[2] = part
        return [0]

    def save(self, number, size, content, key):
        if not self.branch(number):
            return [-2]
        if not 1 <= size <= self.room:
            return [-1]
        if not 1 <= len(key) <= 24 or set(key) - set("abcdefghijklmnopqrstuvwxyz0123456789-./"):
            return [-5]
        if any(row[:2] == [number, key] for row in self.entries):
            return [-4]
        if len(self.entries) == 40:
            return [-7]
        # Without find the entry used least lately is the one saved first.
        left, went = list(self.entries), []
        while sum(row[2] for row in left) + size > self.room:
            holders = {row[0] for row in left}
            above = {
                row[0]: sum(each[2] for each in left if each[0] == row[0]) + (size if row[0] == number else 0) - row[2]
                for row in self.branches
            }
            able = [(-above[each], each) for each in holders if above[each] > 0]
            if not able:
                return [-6]
            giver = min(able)[1]
            first = next(row for row in left if row[0] == giver)
            left.remove(first)
            went.append(first[3])
        self.entries = left + [[number, key, size, content]]
        return [len(went)] + went


def drawn_call(source, room):
    branch = source.randrange(10)
    some = source.choice([0, 1, room, room + 1, source.randrange(room + 1), source.randrange(room // 4 + 1)])
    kind = source.choices(["begins", "opens", "closes", "share", "save"], [1, 18, 4, 9, 68])[0]
    if kind == "begins":
        return kind, (source.choice([0, 1, 20, 100, 1000001]), 7, source.randrange(25))
    if kind == "opens":
        return kind, (branch, source.choice([0, 0, source.randrange(10)]), some // source.choice([1, 4, 8]))
    if kind == "closes":
        return kind, (branch,)
    if kind == "share":
        return kind, (branch, some)
    tight = source.randrange(1, 4)
    size = source.choice([tight, tight, tight, some, source.randrange(room // 4 + 1)])
    key = source.choice(KEYS + [f"k{source.randrange(60)}"] * 20)
    return kind, (source.choice([0, branch]), size, source.randrange(1000), key)


def drawn_small_save(source):
    """Only small entries fill a house up to 40 of them."""
    return "save", (0, source.randrange(1, 3), source.randrange(1000), f"k{source.randrange(1000)}")


FORMS = {"begins": begins, "opens": opens, "closes": closes, "share": share, "save": save}


class ManyLists(unittest.TestCase):
    def test_same_answers(self):
        source = random.Random(94)
        seen = set()
        for turn in range(1500):
            telling = Telling()
            calls, expected = [], []
            for step in range(source.randrange(1, 61)):
                small = turn % 3 == 0 and source.random() < 0.95
                kind, values = drawn_small_save(source) if small else drawn_call(source, telling.room)
                calls.append(FORMS[kind](*values))
                expected.append(getattr(telling, kind)(*values))
                seen.add((kind, min(expected[-1][0], 2)))
            self.assertEqual(parted(answers(joined(calls))), expected, calls)
        for row in [("save", -7), ("save", -6), ("save", -4), ("save", 2), ("opens", -7), ("closes", 2)]:
            self.assertIn(row, seen)

    def test_house_keeps_its_bounds_and_nobody_loses_within_their_share(self):
        source = random.Random(2)
        for turn in range(500):
            house = House()
            for step in range(60):
                kind, values = drawn_call(source, house.room)
                before = sizes(house)
                answer = answer_from(house, Reader(FORMS[kind](*values)))
                self.assertLessEqual(sum(sizes(house).values()), house.room)
                self.assertLessEqual(sum(branch.share for branch in house.branches.values()), house.room)
                self.assertLessEqual(len(house.entries), 40)
                self.assertLessEqual(len(house.branches), 8)
                if kind == "save" and answer[0] > 0:
                    self.check_losses(house, values[0], before)

    def check_losses(self, house, saver, before):
        for number, size in sizes(house).items():
            if number != saver and before[number] <= house.branches[number].share:
                self.assertEqual(size, before[number])


def sizes(house):
    return {
        number: sum(entry.size for entry in house.entries if entry.branch == number) for number in house.branches
    }


if __name__ == "__main__":
    unittest.main()
