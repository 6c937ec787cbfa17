import unittest

from callforms import TOP, CallTest, all_of, begins, closes, house_after, opens, save


def line():
    """0 <- 4 <- 2 <- 7, and 9 beside 7."""
    return [opens(4, 0, 10), opens(2, 4, 10), opens(7, 2, 10), opens(9, 2, 10)]


class ClosesAnswers(CallTest):
    def test_no_entries(self):
        self.check(line() + [closes(7)], [[2], [3], [4], [5], [0]])

    def test_contents_in_the_order_of_saving(self):
        calls = line() + [
            save(2, 5, 300, "z"), save(4, 1, 9, "a"), save(2, 3, 100, "m"), save(2, 4, 200, "a"), closes(2),
        ]
        self.check_last(calls, [3, 300, 100, 200])

    def test_equal_and_highest_contents(self):
        calls = [opens(TOP, 0, 0), save(TOP, 1, TOP, "b"), save(TOP, 1, 0, "a"), save(TOP, 1, TOP, "c"), closes(TOP)]
        self.check_last(calls, [3, TOP, 0, TOP])

    def test_only_its_own_entries_go(self):
        calls = line() + [save(2, 5, 1, "a"), save(4, 5, 2, "a"), save(7, 5, 3, "a"), closes(2)]
        self.assertEqual([entry[2] for entry in all_of(house_after(calls))[5]], [2, 3])
        self.check_last(calls + [closes(4)], [1, 2])
        self.check_last(calls + [closes(7)], [1, 3])

    def test_room_is_free_again(self):
        self.check_last([begins(10, 7, 0), opens(1, 0, 10), save(1, 10, 1, "a"), closes(1), save(0, 10, 2, "b")], [0])

    def test_closed_is_gone(self):
        self.check_refused(line() + [closes(2)], closes(2), -2)
        self.check_refused(line() + [closes(2)], save(2, 1, 1, "a"), -2)


class ClosesInALine(CallTest):
    def branches(self, calls):
        return all_of(house_after(calls))[4]

    def test_middle(self):
        self.assertEqual(self.branches(line() + [closes(2)]), [(0, 0, 0), (4, 0, 10), (7, 4, 10), (9, 4, 10)])

    def test_next_to_branch_zero(self):
        self.assertEqual(self.branches(line() + [closes(4)]), [(0, 0, 0), (2, 0, 10), (7, 2, 10), (9, 2, 10)])

    def test_one_behind_another(self):
        expected = [(0, 0, 0), (7, 0, 10), (9, 0, 10)]
        self.assertEqual(self.branches(line() + [closes(2), closes(4)]), expected)
        self.assertEqual(self.branches(line() + [closes(4), closes(2)]), expected)

    def test_end(self):
        self.assertEqual(self.branches(line() + [closes(7)]), [(0, 0, 0), (4, 0, 10), (2, 4, 10), (9, 2, 10)])

    def test_number_anew_is_not_the_old_parent(self):
        found = self.branches(line() + [closes(2), opens(2, 0, 5)])
        self.assertEqual(found, [(0, 0, 0), (4, 0, 10), (7, 4, 10), (9, 4, 10), (2, 0, 5)])


class ClosesRefusals(CallTest):
    def test_no_such_branch(self):
        self.check_refused(line(), closes(5), -2)
        self.check_refused(line(), closes(TOP), -2)

    def test_branch_zero(self):
        self.check_refused([], closes(0), -3)
        self.check_refused(line() + [save(0, 5, 1, "a")], closes(0), -3)


if __name__ == "__main__":
    unittest.main()
