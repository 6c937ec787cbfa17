import unittest

from branchcaches.caches import answers
from callforms import TOP, CallTest, begins, closes, find, joined, opens, parted, save, share, would


def crowded():
    """A full room; above their shares: branch 0 by 20, branch 1 by 20, branch 2 by 0."""
    return [begins(100, 7, 10), opens(1, 0, 10), opens(2, 1, 40), save(0, 15, 1, "a"), save(1, 20, 10, "a"),
            save(2, 40, 20, "a"), save(1, 10, 11, "b"), save(0, 15, 2, "b")]


def forty(room):
    saves = [save(number % 2, 1, number, f"k{number}") for number in range(40)]
    return [begins(room, 7, 0), opens(1, 0, 0)] + saves


class WouldAnswers(CallTest):
    def test_with_enough_room(self):
        self.check([would(0, 100), save(0, 60, 1, "a"), would(0, 40)], [[0], [0], [0]])

    def test_whole_answer(self):
        self.check_changes_nothing(crowded(), would(2, 1), [1, 1])
        self.check_changes_nothing(crowded(), would(2, 16), [2, 1, 10])
        self.check_changes_nothing(crowded(), would(0, 1), [1, 1])
        self.check_changes_nothing(crowded(), would(1, 1), [1, 10])

    def test_same_as_save_then(self):
        for setup in (crowded(), crowded() + [find(0, "a")], crowded() + [share(2, 0)], crowded() + [closes(2)]):
            for branch in (0, 1, 2, 3):
                for size in (0, 1, 5, 10, 15, 16, 30, 31, 40, 41, 59, 60, 61, 90, 99, 100, 101, TOP):
                    with self.subTest(branch=branch, size=size):
                        self.check_as_save(setup, branch, size)

    def check_as_save(self, setup, branch, size):
        given = parted(answers(joined(setup + [would(branch, size), save(branch, size, 9, "new")])))
        self.assertEqual(given[-2], given[-1])
        alone = parted(answers(joined(setup + [save(branch, size, 9, "new")])))
        self.assertEqual(given[-1], alone[-1])
        self.check_changes_nothing(setup, would(branch, size), alone[-1])

    def test_asked_twice(self):
        self.check(crowded() + [would(2, 16), would(2, 16), save(2, 16, 5, "c"), would(2, 19), would(2, 20)],
                   [[0], [2], [3]] + [[0]] * 5 + [[2, 1, 10], [2, 1, 10], [2, 1, 10], [0], [1, 20]])

    def test_saving_branch_without_entries_cannot_give(self):
        self.check_changes_nothing([begins(10, 7, 0), opens(1, 0, 0), save(0, 8, 1, "a")], would(1, 10), [1, 1])


class FortyEntries(CallTest):
    """Promise 2 names -2, -1 and -6 for would, so it tells who would have to give with 40 entries, too."""

    def test_with_enough_room(self):
        self.check_changes_nothing(forty(1000), would(0, 1), [0])
        self.check_changes_nothing(forty(1000), would(1, 960), [0])

    def test_where_some_would_have_to_go(self):
        self.check_changes_nothing(forty(40), would(0, 1), [1, 0])
        self.check_changes_nothing(forty(40), would(1, 1), [1, 1])
        self.check_changes_nothing(forty(1000), would(0, 962), [2, 0, 2])

    def test_all_would_have_to_go(self):
        self.check_changes_nothing(forty(40), would(0, 40), [40] + list(range(0, 40, 2)) + list(range(1, 40, 2)))

    def test_refusals(self):
        self.check_refused(forty(40), would(2, 1), -2)
        self.check_refused(forty(40), would(0, 0), -1)
        self.check_refused(forty(40), would(0, 41), -1)
        self.check_refused(forty(40) + [share(0, 20), share(1, 20), opens(2, 0, 0)], would(2, 1), -6)

    def test_thirty_nine(self):
        setup = forty(40)[:-1]
        self.check_changes_nothing(setup, would(0, 1), [0])
        self.check_changes_nothing(setup, would(0, 2), [1, 0])


class WouldEdges(CallTest):
    def test_sizes(self):
        setup = [begins(20, 7, 0), save(0, 20, 1, "a")]
        self.check_refused(setup, would(0, 0), -1)
        self.check_changes_nothing(setup, would(0, 1), [1, 1])
        self.check_changes_nothing(setup, would(0, 20), [1, 1])
        self.check_refused(setup, would(0, 21), -1)
        self.check_refused(setup, would(0, TOP), -1)

    def test_sizes_in_an_empty_house(self):
        self.check([would(0, 0), would(0, 1), would(0, 100), would(0, 101)], [[-1], [0], [0], [-1]])
        self.check([begins(1000000, 0, 0), would(0, 1000000), would(0, 1000001)], [[0], [0], [-1]])

    def test_highest_branch_and_content(self):
        setup = [begins(10, 7, 0), opens(TOP, 0, 0), save(TOP, 10, TOP, "a")]
        self.check_changes_nothing(setup, would(TOP, 1), [1, TOP])


class WouldRefusals(CallTest):
    def test_no_such_branch(self):
        self.check_refused(crowded(), would(3, 1), -2)
        self.check_refused(crowded(), would(TOP, 1), -2)
        self.check_refused(crowded() + [closes(2)], would(2, 1), -2)

    def test_no_room(self):
        setup = [begins(10, 7, 5), opens(1, 0, 5), save(0, 5, 1, "a")]
        self.check_refused(setup, would(1, 6), -6)
        self.check_changes_nothing(setup, would(1, 5), [0])

    def test_no_room_though_some_could_go(self):
        setup = [begins(100, 7, 50), opens(1, 0, 10), opens(2, 0, 0),
                 save(0, 50, 1, "a"), save(1, 10, 2, "a"), save(2, 20, 3, "a"), save(2, 20, 4, "b")]
        self.check_refused(setup, would(1, 51), -6)
        self.check_changes_nothing(setup, would(1, 50), [3, 2, 3, 4])

    def test_first_told_wins(self):
        halved = [begins(10, 7, 5), opens(1, 0, 5), save(0, 5, 1, "a")]
        self.check_refused(halved, would(2, 0), -2)
        self.check_refused(halved, would(2, 11), -2)
        self.check_refused(halved, would(2, 6), -2)
        self.check_refused(halved, would(1, 11), -1)


if __name__ == "__main__":
    unittest.main()
