"""What the tests share: calls in the interface's form, and checks of their answers."""

import unittest

from branchcaches.caches import answer_from, answers
from branchcaches.call_reader import Reader
from branchcaches.house_state import House

TOP = 4294967295


def begins(room, life, share):
    return [0, 3, room, life, share, 0]


def opens(branch, parent, share):
    return [1, 3, branch, parent, share, 0]


def closes(branch):
    return [2, 1, branch, 0]


def share(branch, part):
    return [3, 2, branch, part, 0]


def save(branch, size, content, key):
    row = [ord(sign) for sign in key] if isinstance(key, str) else list(key)
    return [4, 3, branch, size, content, 1, len(row)] + row


def joined(calls):
    return [number for call in calls for number in call]


def parted(numbers):
    """The flat list of answers, as one list for each call."""
    parts = []
    place = 0
    while place < len(numbers):
        end = place + 1 + numbers[place]
        parts.append(numbers[place + 1:end])
        if len(parts[-1]) != numbers[place] or numbers[place] < 1:
            raise ValueError(f"not a list of answers: {numbers}")
        place = end
    return parts


def house_after(calls):
    house = House()
    for call in calls:
        answer_from(house, Reader(call))
    return house


def all_of(house):
    """All that a house knows, in plain values."""
    branches = [(number, branch.parent, branch.share) for number, branch in house.branches.items()]
    entries = [
        (entry.branch, entry.size, entry.content, tuple(entry.key), entry.last_use, entry.last_day)
        for entry in house.entries
    ]
    return (house.room, house.life, house.day, house.uses, branches, entries)


class CallTest(unittest.TestCase):
    def check(self, calls, expected):
        self.assertEqual(parted(answers(joined(calls))), expected)

    def check_last(self, calls, expected):
        """The last call's answer; no call ahead of it may have been refused."""
        found = parted(answers(joined(calls)))
        for answer in found[:-1]:
            self.assertGreaterEqual(answer[0], 0, found)
        self.assertEqual(found[-1], expected)

    def check_refused(self, setup, call, refusal):
        """The call is refused with just that number, and all is as it was."""
        self.check_last(setup + [call], [refusal])
        self.assertEqual(all_of(house_after(setup + [call])), all_of(house_after(setup)))
