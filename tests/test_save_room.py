import unittest

from branchcaches.entry_calls import answer_save
from callforms import CallTest, all_of, begins, closes, house_after, opens, save, share


class EnoughRoom(CallTest):
    def test_just_enough(self):
        setup = [begins(100, 7, 0), opens(1, 0, 0), save(0, 40, 1, "a"), save(1, 30, 2, "b")]
        self.check_last(setup + [save(1, 30, 3, "c")], [0])
        self.assertEqual(len(house_after(setup + [save(1, 30, 3, "c")]).entries), 3)

    def test_one_too_little(self):
        setup = [begins(100, 7, 0), opens(1, 0, 0), save(0, 40, 1, "a"), save(1, 30, 2, "b")]
        self.check_last(setup + [save(1, 31, 3, "c")], [1, 2])

    def test_room_that_nobody_needs_is_lent(self):
        self.check_last([begins(100, 7, 100), opens(1, 0, 0), save(1, 60, 1, "a"), save(1, 40, 2, "b")], [0])

    def test_lent_room_is_given_back(self):
        setup = [begins(100, 7, 100), opens(1, 0, 0), save(1, 60, 1, "a"), save(1, 40, 2, "b")]
        self.check_last(setup + [save(0, 61, 3, "c"), closes(1)], [0])
        self.check_last(setup + [save(0, 61, 3, "c")], [2, 1, 2])
        self.check_last(setup + [save(0, 60, 3, "c")], [1, 1])


class WhoGives(CallTest):
    def test_farthest_above_gives(self):
        setup = [begins(100, 7, 0), opens(1, 0, 30), opens(2, 0, 10), opens(3, 0, 20),
                 save(0, 20, 10, "a"), save(1, 40, 11, "a"), save(2, 35, 12, "a")]
        self.check_last(setup + [save(3, 6, 13, "a")], [1, 12])

    def test_biggest_is_not_farthest(self):
        setup = [begins(100, 7, 0), opens(1, 0, 60), save(1, 61, 1, "a"), save(0, 39, 2, "a"), opens(2, 0, 40)]
        self.check_last(setup + [save(2, 1, 3, "a")], [1, 2])

    def test_of_equally_far_the_lowest_number(self):
        setup = [begins(30, 7, 10), opens(9, 0, 0), opens(4, 0, 0), opens(6, 0, 0),
                 save(9, 10, 90, "a"), save(6, 10, 60, "a"), save(4, 10, 40, "a")]
        self.check_last(setup + [save(0, 5, 1, "a")], [1, 40])
        self.check_last(setup + [save(0, 15, 1, "a")], [2, 40, 60])
        self.check_last(setup + [save(0, 25, 1, "a")], [3, 40, 60, 90])

    def test_equally_far_with_the_saver(self):
        setup = [begins(20, 7, 0), opens(1, 0, 0), save(0, 10, 1, "a"), save(1, 5, 2, "a")]
        self.check_last(setup + [save(1, 6, 3, "b")], [1, 2])
        setup = [begins(20, 7, 0), opens(1, 0, 0), save(0, 11, 1, "a"), save(1, 5, 2, "a")]
        self.check_last(setup + [save(1, 6, 3, "b")], [1, 1])
        setup = [begins(20, 7, 0), opens(1, 0, 0), save(1, 11, 1, "a"), save(0, 5, 2, "a")]
        self.check_last(setup + [save(0, 6, 3, "b")], [1, 2])

    def test_saver_counts_the_new_entry(self):
        setup = [begins(20, 7, 0), opens(1, 0, 0), save(0, 10, 1, "a"), save(1, 8, 2, "a")]
        self.check_last(setup + [save(1, 3, 3, "b")], [1, 2])
        self.check_last(setup + [save(0, 3, 3, "b")], [1, 1])

    def test_saver_within_its_share_but_for_the_new_entry(self):
        setup = [begins(20, 7, 10), opens(1, 0, 10), save(0, 10, 1, "a"), save(1, 10, 2, "a")]
        self.check_last(setup + [save(1, 1, 3, "b")], [1, 2])
        self.check_last(setup + [save(0, 1, 3, "b")], [1, 1])

    def test_saver_without_entries_cannot_give(self):
        setup = [begins(10, 7, 0), opens(1, 0, 0), save(0, 8, 1, "a")]
        self.check_last(setup + [save(1, 10, 2, "a")], [1, 1])

    def test_just_at_its_share_does_not_give(self):
        setup = [begins(10, 7, 5), opens(1, 0, 5), save(0, 5, 1, "a")]
        self.check_refused(setup, save(1, 6, 2, "a"), -6)

    def test_one_above_its_share_gives(self):
        setup = [begins(10, 7, 4), opens(1, 0, 5), save(0, 5, 1, "a")]
        self.check_last(setup + [save(1, 6, 2, "a")], [1, 1])

    def test_share_given_anew_counts(self):
        setup = [begins(10, 7, 5), opens(1, 0, 5), save(0, 5, 1, "a"), save(1, 5, 2, "a"), opens(2, 0, 0)]
        self.check_refused(setup, save(2, 1, 3, "a"), -6)
        self.check_last(setup + [share(0, 4), save(2, 1, 3, "a")], [1, 1])
        self.check_last(setup + [share(1, 4), save(2, 1, 3, "a")], [1, 2])


class WhatGoes(CallTest):
    def test_least_lately_used_of_the_giver(self):
        setup = [begins(100, 7, 0), opens(1, 0, 60), save(1, 10, 1, "a"), save(0, 30, 3, "z"), save(0, 20, 2, "a"),
                 save(0, 40, 4, "m")]
        self.check_last(setup + [save(1, 1, 5, "b")], [1, 3])
        self.check_last(setup + [save(1, 31, 5, "b")], [2, 3, 2])

    def test_used_later_goes_later(self):
        house = house_after([begins(30, 7, 0), save(0, 10, 1, "a"), save(0, 10, 2, "b"), save(0, 10, 3, "c")])
        house.mark_used(house.entries[0])
        self.assertEqual(answer_save(house, 0, 15, 4, [100]), [2, 2, 3])
        self.assertEqual([entry.content for entry in house.entries], [1, 4])

    def test_several_one_behind_another_from_several_branches(self):
        setup = [begins(100, 7, 10), opens(1, 0, 10), opens(2, 0, 10), opens(3, 0, 70),
                 save(1, 10, 11, "a"), save(2, 15, 21, "a"), save(0, 12, 1, "a"), save(1, 20, 12, "b"),
                 save(2, 15, 22, "b"), save(0, 12, 2, "b"), save(1, 10, 13, "c"), save(0, 6, 3, "c")]
        # Above their shares at first: branch 0 by 20, branch 1 by 30, branch 2 by 20.
        self.check_last(setup + [save(3, 10, 31, "a")], [1, 11])
        self.check_last(setup + [save(3, 11, 31, "a")], [2, 11, 1])
        self.check_last(setup + [save(3, 23, 31, "a")], [3, 11, 1, 12])
        self.check_last(setup + [save(3, 43, 31, "a")], [4, 11, 1, 12, 21])
        self.check_last(setup + [save(3, 58, 31, "a")], [5, 11, 1, 12, 21, 2])
        self.check_last(setup + [save(3, 69, 31, "a")], [5, 11, 1, 12, 21, 2])
        self.check_last(setup + [save(3, 70, 31, "a")], [6, 11, 1, 12, 21, 2, 22])

    def test_the_rest_stays(self):
        setup = [begins(30, 7, 0), opens(1, 0, 20), save(0, 10, 1, "a"), save(1, 10, 2, "a"), save(0, 10, 3, "b")]
        house = house_after(setup + [save(1, 5, 4, "b")])
        self.assertEqual([entry[:3] for entry in all_of(house)[5]], [(1, 10, 2), (0, 10, 3), (1, 5, 4)])

    def test_the_new_entry_does_not_go(self):
        calls = [begins(10, 7, 0), save(0, 4, 1, "a"), save(0, 4, 2, "b"), save(0, 10, 3, "c"), save(0, 1, 4, "d")]
        self.check(calls, [[0], [0], [0], [2, 1, 2], [1, 3]])

    def test_equal_contents_on_several_branches(self):
        setup = [begins(20, 7, 0), opens(1, 0, 20), save(0, 5, 7, "a"), save(1, 5, 7, "a"), save(0, 10, 7, "b")]
        house = house_after(setup + [save(1, 11, 7, "b")])
        self.check_last(setup + [save(1, 11, 7, "b")], [2, 7, 7])
        self.assertEqual([entry[:3] for entry in all_of(house)[5]], [(1, 5, 7), (1, 11, 7)])


class NoRoom(CallTest):
    def test_nobody_above_but_the_saver_without_entries(self):
        setup = [begins(100, 7, 50), opens(1, 0, 50), save(0, 50, 1, "a")]
        self.check_refused(setup, save(1, 51, 2, "a"), -6)
        self.check_last(setup + [save(1, 50, 2, "a")], [0])

    def test_nothing_goes_though_some_could(self):
        setup = [begins(100, 7, 50), opens(1, 0, 10), opens(2, 0, 0),
                 save(0, 50, 1, "a"), save(1, 10, 2, "a"), save(2, 20, 3, "a"), save(2, 20, 4, "b")]
        self.check_refused(setup, save(1, 51, 5, "b"), -6)
        self.check_last(setup + [save(1, 50, 5, "b")], [3, 2, 3, 4])

    def test_saver_gives_all_and_it_does_not_do(self):
        setup = [begins(100, 7, 60), opens(1, 0, 40), save(0, 60, 1, "a"), save(1, 20, 2, "a"), save(1, 20, 3, "b")]
        self.check_refused(setup, save(1, 41, 4, "c"), -6)
        self.check_last(setup + [save(1, 40, 4, "c")], [2, 2, 3])

    def test_calls_after_it_are_as_without_it(self):
        setup = [begins(100, 7, 60), opens(1, 0, 40), save(0, 60, 1, "a"), save(1, 20, 2, "a"), save(1, 20, 3, "b")]
        self.check(setup + [save(1, 41, 4, "c"), save(1, 20, 5, "c"), closes(1)],
                   [[0], [2], [0], [0], [0], [-6], [1, 2], [2, 3, 5]])

    def test_no_shares_at_all(self):
        self.check([begins(1, 7, 0), save(0, 1, 1, "a"), save(0, 1, 2, "b"), save(0, 1, 3, "c")],
                   [[0], [0], [1, 1], [1, 2]])


if __name__ == "__main__":
    unittest.main()
