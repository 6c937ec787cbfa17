"""What the tests share: calls in the interface's form, and checks of their answers."""

import unittest

from branchcaches.caches import answer_from, answers
from branchcaches.call_reader import Reader
from branchcaches.house_state import House

TOP = 4294967295


def begins(room, life, share):
    return [0, 3, room, life, share, 0]


def opens(branch, parent, share):
    return [1, 3, branch, parent, share, 0]


def closes(branch):
    return [2, 1, branch, 0]


def share(branch, part):
    return [3, 2, branch, part, 0]


def row_of(key):
    return [ord(sign) for sign in key] if isinstance(key, str) else list(key)


def with_length(row):
    return [len(row)] + row


def save(branch, size, content, key):
    return [4, 3, branch, size, content, 1] + with_length(row_of(key))


def find(branch, key, *beginnings):
    rows = [row_of(key)] + [row_of(beginning) for beginning in beginnings]
    return [5, 1, branch, len(rows)] + joined([with_length(row) for row in rows])


def would(branch, size):
    return [6, 2, branch, size, 0]


def pass_days(days):
    return [7, 1, days, 0]


def list_of(branch):
    return [8, 1, branch, 0]


def state():
    return [9, 0, 0]


def joined(calls):
    return [number for call in calls for number in call]


def parted(numbers):
    """The flat list of answers, as one list for each call."""
    parts = []
    place = 0
    while place < len(numbers):
        end = place + 1 + numbers[place]
        parts.append(numbers[place + 1:end])
        if len(parts[-1]) != numbers[place] or numbers[place] < 1:
            raise ValueError(f"not a list of answers: {numbers}")
        place = end
    return parts


def house_after(calls):
    house = House()
    for call in calls:
        answer_from(house, Reader(call))
    return house


def all_of(house):
    """All that a house knows, in plain values."""
    branches = [(number, branch.parent, branch.share) for number, branch in house.branches.items()]
    entries = [
        (entry.branch, entry.size, entry.content, tuple(entry.key), entry.last_use, entry.last_day)
        for entry in house.entries
    ]
    return (house.room, house.life, house.day, house.uses, branches, entries)


def found(way, branch, content, size, key):
    """What find answers."""
    return [way, branch, content, size] + row_of(key)


class CallTest(unittest.TestCase):
    def check(self, calls, expected):
        self.assertEqual(parted(answers(joined(calls))), expected)

    def check_last(self, calls, expected):
        """The last call's answer; no call ahead of it may have been refused."""
        given = parted(answers(joined(calls)))
        for answer in given[:-1]:
            self.assertGreaterEqual(answer[0], 0, given)
        self.assertEqual(given[-1], expected)

    def check_refused(self, setup, call, refusal):
        """The call is refused with just that number, and all is as it was."""
        self.check_changes_nothing(setup, call, [refusal])

    def check_changes_nothing(self, setup, call, expected):
        self.check_last(setup + [call], expected)
        self.assertEqual(all_of(house_after(setup + [call])), all_of(house_after(setup)))
