"""A find by the entry's own branch is a use of the entry; a find by another branch is none."""

import unittest

from callforms import CallTest, all_of, begins, find, found, house_after, list_of, opens, pass_days, save, would


def three():
    """Branch 0 holds a, b and c, and the room is full; branch 1 comes from it."""
    return [begins(30, 7, 0), opens(1, 0, 0), save(0, 10, 1, "a1"), save(0, 10, 2, "b"), save(0, 10, 3, "a2")]


class WhoseEntryGoesNext(CallTest):
    def test_without_a_find_the_one_saved_first(self):
        self.check_last(three() + [save(0, 1, 4, "new")], [1, 1])

    def test_found_by_its_own_branch(self):
        self.check_last(three() + [find(0, "a1"), save(0, 1, 4, "new")], [1, 2])
        self.check_last(three() + [find(0, "a1"), find(0, "b"), save(0, 1, 4, "new")], [1, 3])
        self.check_last(three() + [find(0, "a1"), find(0, "b"), find(0, "a2"), save(0, 1, 4, "new")], [1, 1])
        self.check_last(three() + [find(0, "b"), find(0, "a1"), save(0, 25, 4, "new")], [3, 3, 2, 1])

    def test_found_by_its_own_branch_by_a_beginning(self):
        self.check_last(three() + [find(0, "key", "a1"), save(0, 1, 4, "new")], [1, 2])
        self.check_last(three() + [find(0, "key", "x", "b"), save(0, 21, 4, "new")], [3, 1, 3, 2])

    def test_only_the_entry_found_is_used(self):
        # Of a1 and a2 the beginning finds a2, so a1 still goes first.
        self.check_last(three() + [find(0, "key", "a"), save(0, 1, 4, "new")], [1, 1])

    def test_found_by_another_branch(self):
        self.check_last(three() + [find(1, "a1"), save(0, 1, 4, "new")], [1, 1])
        self.check_last(three() + [find(1, "key", "a1"), save(0, 1, 4, "new")], [1, 1])
        self.check_last(three() + [find(0, "a1"), find(1, "b"), save(0, 1, 4, "new")], [1, 2])

    def test_would_tells_so_too(self):
        self.check_last(three() + [find(0, "a1"), would(1, 11)], [2, 2, 3])
        self.check_last(three() + [find(1, "a1"), would(1, 11)], [2, 1, 2])

    def test_order_of_saving_stays(self):
        setup = three() + [find(0, "a1"), find(0, "b")]
        self.check_last(setup + [list_of(0)], [3, 30, 1, 10, 0, 2, 10, 0, 3, 10, 0])
        self.check_last(setup + [pass_days(8)], [3, 1, 2, 3])


class TheDay(CallTest):
    def setUp(self):
        self.later = [opens(1, 0, 0), save(0, 10, 1, "a"), save(0, 20, 2, "b"), pass_days(3)]

    def test_day_of_saving(self):
        self.check_last(self.later + [save(0, 5, 3, "c"), list_of(0)], [3, 35, 1, 10, 0, 2, 20, 0, 3, 5, 3])

    def test_found_by_its_own_branch(self):
        self.check_last(self.later + [find(0, "a"), list_of(0)], [2, 30, 1, 10, 3, 2, 20, 0])
        self.check_last(self.later + [find(0, "key", "b"), list_of(0)], [2, 30, 1, 10, 0, 2, 20, 3])

    def test_found_by_another_branch(self):
        self.check_last(self.later + [find(1, "a"), list_of(0)], [2, 30, 1, 10, 0, 2, 20, 0])
        self.check_last(self.later + [find(1, "key", "b"), list_of(0)], [2, 30, 1, 10, 0, 2, 20, 0])

    def test_found_by_another_branch_after_its_own(self):
        calls = self.later + [find(0, "a"), pass_days(2), find(1, "a"), list_of(0)]
        self.check_last(calls, [2, 30, 1, 10, 3, 2, 20, 0])

    def test_found_farther_down_the_line(self):
        calls = [opens(1, 0, 0), opens(2, 1, 0), save(1, 10, 1, "a"), pass_days(3), find(2, "a"), list_of(1)]
        self.check_last(calls, [1, 10, 1, 10, 0])

    def test_refused_find_is_no_use(self):
        self.check_refused(self.later, find(0, "a", "A"), -5)
        self.check_refused(self.later, find(0, "a", "", "", "", "", ""), -5)
        self.check_refused(self.later, find(0, "c", "x"), -8)


class WhatPassTakes(CallTest):
    def setUp(self):
        self.later = [begins(100, 7, 0), opens(1, 0, 0), save(0, 10, 1, "a"), save(0, 20, 2, "b"), pass_days(1)]

    def test_found_by_its_own_branch(self):
        self.check_last(self.later + [find(0, "a"), pass_days(7)], [1, 2])
        self.check_last(self.later + [find(0, "key", "a"), pass_days(7)], [1, 2])
        self.check_last(self.later + [find(0, "a"), pass_days(8)], [2, 1, 2])

    def test_found_by_another_branch(self):
        self.check_last(self.later + [find(1, "a"), pass_days(7)], [2, 1, 2])
        self.check_last(self.later + [find(1, "key", "a"), pass_days(7)], [2, 1, 2])

    def test_gone_is_not_found(self):
        self.check_refused(self.later + [find(0, "a"), pass_days(7)], find(0, "b"), -8)
        self.check_last(self.later + [find(0, "a"), pass_days(7), find(0, "b", "")], found(1, 0, 1, 10, "a"))


class NothingElseChanges(CallTest):
    def test_find_by_another_branch_changes_nothing(self):
        self.check_changes_nothing(three(), find(1, "a1"), found(0, 0, 1, 10, "a1"))
        self.check_changes_nothing(three(), find(1, "key", ""), found(1, 0, 3, 10, "a2"))

    def test_find_by_its_own_branch_changes_this_entry_alone(self):
        before = all_of(house_after(three() + [pass_days(2)]))
        after = all_of(house_after(three() + [pass_days(2), find(0, "b")]))
        self.assertEqual(after[:3] + after[4:5], before[:3] + before[4:5])
        self.assertEqual([entry[:4] for entry in after[5]], [entry[:4] for entry in before[5]])
        self.assertEqual([after[5][0], after[5][2]], [before[5][0], before[5][2]])
        self.assertEqual([entry[5] for entry in after[5]], [0, 2, 0])


if __name__ == "__main__":
    unittest.main()
