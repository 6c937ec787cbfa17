"""What the document promises over the whole program, seen through the calls alone."""

import random
import unittest

from branchcaches.caches import answers
from callforms import (
    CallTest, begins, closes, find, found, joined, list_of, opens, parted, pass_days, save, share, state, would,
)


class AllTenSorts(CallTest):
    def test_sixty_calls_eight_branches_forty_entries(self):
        calls = [begins(100, 7, 10)] + [opens(number, number - 1, 10) for number in range(1, 8)]
        calls += [save(number % 8, 2, 100 + number, f"k{number}") for number in range(40)]
        expected = [[0]] + [[number] for number in range(2, 9)] + [[0]] * 40
        later = [
            (state(), [8, 0, 0, 10, 10] + joined([[number, number - 1, 10, 10] for number in range(1, 8)])),
            (save(0, 1, 1, "new"), [-7]),
            (would(3, 20), [0]),
            (would(3, 21), [1, 103]),
            (pass_days(3), [0]),
            (find(7, "k0"), found(0, 0, 100, 2, "k0")),
            (find(3, "k3"), found(0, 3, 103, 2, "k3")),
            (share(3, 0), [0]),
            (closes(5), [5, 105, 113, 121, 129, 137]),
            (save(3, 40, 999, "new"), [5, 111, 119, 127, 135, 103]),
            (pass_days(5), [30] + [100 + number for number in range(40) if number % 8 not in (3, 5)]),
            (list_of(3), [1, 40, 999, 40, 3]),
        ]
        calls += [call for call, answer in later]
        expected += [answer for call, answer in later]
        self.assertEqual(len(calls), 60)
        self.check(calls, expected)


LINE = [0, 1, 2]
STRANGERS = [3, 4, 5]
SHARE = 20
KEYS = ["a", "ab", "abc", "b", "ba", "c"]


def house():
    """The line 0 <- 1 <- 2, and a stranger who comes from each of these."""
    return [begins(100, 7, SHARE), opens(1, 0, SHARE), opens(2, 1, SHARE),
            opens(3, 2, 10), opens(4, 1, 10), opens(5, 0, 10)]


def drawn_find(source, branch):
    return find(branch, source.choice(KEYS), *source.choices(["", "a", "ab", "b", "c"], k=source.randrange(3)))


def drawn_line_call(source, saved):
    """A call of the line's own, which keeps within its shares: no more is ever saved than that."""
    branch = source.choice(LINE)
    size = source.randrange(1, 8)
    kind = source.choice(["save", "find", "find", "list", "pass"])
    if kind == "save" and saved[branch] + size <= SHARE:
        saved[branch] += size
        return save(branch, size, source.randrange(1000), source.choice(KEYS))
    if kind == "pass":
        return pass_days(source.randrange(1, 5))
    return list_of(branch) if kind == "list" else drawn_find(source, branch)


def drawn_stranger_call(source):
    branch = source.choice(STRANGERS)
    kind = source.choice(["save"] * 8 + ["find"] * 4 + ["would", "share", "closes", "opens"])
    if kind == "save":
        return save(branch, source.choice([1, 10, 40, 80]), 5000, source.choice(KEYS))
    if kind == "find":
        return drawn_find(source, branch)
    if kind == "would":
        return would(branch, source.randrange(1, 101))
    if kind == "share":
        return share(branch, source.randrange(0, 41))
    return closes(branch) if kind == "closes" else opens(branch, source.choice(LINE + STRANGERS), 1)


class StrangersChangeNothing(unittest.TestCase):
    def test_what_the_line_finds_hangs_on_the_line_alone(self):
        source = random.Random(5)
        lost = 0
        for turn in range(600):
            saved = {branch: 0 for branch in LINE}
            own = [drawn_line_call(source, saved) for step in range(30)]
            mixed = [(call, True) for call in own]
            for step in range(20):
                mixed.insert(source.randrange(len(mixed) + 1), (drawn_stranger_call(source), False))
            alone = parted(answers(joined(house() + own)))[6:]
            among = parted(answers(joined(house() + [call for call, is_own in mixed])))[6:]
            kept = [answer for answer, (call, is_own) in zip(among, mixed) if is_own]
            for call, one, other in zip(own, alone, kept):
                if call[0] in (5, 8):
                    self.assertEqual(one, other, (own, mixed))
                # Which of the strangers' entries have to go is all that may differ.
                if call[0] == 4:
                    self.assertEqual(one[0] < 0, other[0] < 0)
                    self.assertEqual(set(other[1:]) - {5000}, set())
                    lost += max(other[0], 0)
                if call[0] == 7:
                    self.assertEqual(one[1:], [content for content in other[1:] if content != 5000])
        self.assertGreater(lost, 100)


if __name__ == "__main__":
    unittest.main()
