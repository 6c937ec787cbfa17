import unittest

from callforms import TOP, CallTest, all_of, begins, closes, house_after, opens, save, share


def eight():
    """Branch 0 and seven others, with 30 of the room in nobody's share."""
    return [begins(100, 7, 0)] + [opens(number, 0, 10) for number in range(1, 8)]


class OpensAnswers(CallTest):
    def test_answers_how_many_branches(self):
        self.check([opens(5, 0, 10), opens(3, 5, 20), opens(9, 0, 0)], [[2], [3], [4]])

    def test_keeps_number_parent_share_in_order(self):
        house = house_after([opens(5, 0, 10), opens(3, 5, 20), opens(9, 3, 0)])
        self.assertEqual(all_of(house)[4], [(0, 0, 0), (5, 0, 10), (3, 5, 20), (9, 3, 0)])

    def test_new_branch_can_save(self):
        self.check([opens(5, 0, 10), save(5, 10, 77, "a"), closes(5)], [[2], [0], [1, 77]])

    def test_number_is_free_again_when_closed(self):
        calls = [opens(5, 0, 10), opens(6, 0, 10), save(5, 1, 1, "a"), closes(5), opens(5, 6, 3), closes(5)]
        self.check(calls, [[2], [3], [0], [1, 1], [3], [0]])
        self.assertEqual(all_of(house_after(calls[:-1]))[4], [(0, 0, 0), (6, 0, 10), (5, 6, 3)])

    def test_highest_number(self):
        self.check([opens(TOP, 0, 1), opens(1, TOP, 1), closes(TOP)], [[2], [3], [0]])


class OpensEdges(CallTest):
    def test_shares_together(self):
        setup = [begins(100, 7, 30), opens(1, 0, 20)]
        self.check_last(setup + [opens(2, 0, 50)], [3])
        self.check_refused(setup, opens(2, 0, 51), -1)
        self.check_refused(setup, opens(2, 0, TOP), -1)

    def test_entries_are_not_counted_with_the_shares(self):
        self.check_last([begins(100, 7, 0), save(0, 100, 1, "a"), opens(1, 0, 100)], [2])

    def test_closed_share_is_free_again(self):
        setup = [begins(100, 7, 30), opens(1, 0, 70), closes(1)]
        self.check_last(setup + [opens(2, 0, 70)], [2])
        self.check_refused(setup, opens(2, 0, 71), -1)

    def test_share_zero_when_all_is_given(self):
        self.check_last([begins(100, 7, 100), opens(1, 0, 0)], [2])

    def test_eighth_and_ninth(self):
        self.check(eight(), [[0], [2], [3], [4], [5], [6], [7], [8]])
        self.check_refused(eight(), opens(8, 0, 10), -7)
        self.check_last(eight() + [closes(4), opens(8, 0, 10)], [8])


class OpensRefusals(CallTest):
    def test_branch_is_there(self):
        self.check_refused([opens(5, 0, 10)], opens(5, 0, 10), -4)
        self.check_refused([], opens(0, 0, 0), -4)

    def test_parent_is_not_there(self):
        self.check_refused([opens(5, 0, 10)], opens(6, 4, 10), -2)
        self.check_refused([opens(5, 0, 10)], opens(6, TOP, 10), -2)

    def test_parent_is_closed(self):
        self.check_refused([opens(5, 0, 10), closes(5)], opens(6, 5, 10), -2)

    def test_parent_is_itself(self):
        self.check_refused([], opens(6, 6, 10), -2)

    def test_first_told_wins(self):
        self.check_refused(eight(), opens(3, 99, TOP), -4)
        self.check_refused(eight(), opens(3, 99, 0), -4)
        self.check_refused(eight(), opens(3, 0, 31), -4)
        self.check_refused(eight(), opens(3, 0, 0), -4)
        self.check_refused(eight(), opens(8, 99, 31), -2)
        self.check_refused(eight(), opens(8, 99, 0), -2)
        self.check_refused(eight(), opens(8, 0, 31), -1)
        self.check_refused([opens(1, 0, 0)], opens(2, 3, 101), -2)
        self.check_refused([opens(1, 0, 0)], opens(1, 3, 101), -4)


class ShareCall(CallTest):
    def test_answers_zero_and_keeps_the_share(self):
        calls = [opens(1, 0, 20), share(1, 35), share(0, 5)]
        self.check(calls, [[2], [0], [0]])
        self.assertEqual(all_of(house_after(calls))[4], [(0, 0, 5), (1, 0, 35)])

    def test_old_share_counts_no_more(self):
        setup = [begins(100, 7, 30), opens(1, 0, 70)]
        self.check_last(setup + [share(1, 70)], [0])
        self.check_last(setup + [share(0, 30)], [0])
        self.check_refused(setup, share(1, 71), -1)
        self.check_refused(setup, share(0, 31), -1)

    def test_shares_together(self):
        setup = [begins(100, 7, 30), opens(1, 0, 20), opens(2, 1, 10)]
        self.check_last(setup + [share(1, 60)], [0])
        self.check_refused(setup, share(1, 61), -1)
        self.check_refused(setup, share(1, TOP), -1)
        self.check_last(setup + [share(0, 70)], [0])
        self.check_refused(setup, share(0, 71), -1)

    def test_share_given_back_is_free(self):
        self.check_last([begins(100, 7, 30), opens(1, 0, 70), share(1, 0), share(0, 100)], [0])

    def test_what_it_has_stays(self):
        calls = [begins(100, 7, 0), opens(1, 0, 50), save(1, 40, 8, "a"), save(1, 60, 9, "b"), share(1, 0), closes(1)]
        self.check_last(calls, [2, 8, 9])

    def test_no_such_branch(self):
        self.check_refused([opens(1, 0, 20)], share(2, 0), -2)
        self.check_refused([opens(1, 0, 20)], share(TOP, 0), -2)
        self.check_refused([opens(1, 0, 20), closes(1)], share(1, 0), -2)

    def test_first_told_wins(self):
        self.check_refused([opens(1, 0, 20)], share(2, 101), -2)
        self.check_refused([opens(1, 0, 20)], share(TOP, TOP), -2)


if __name__ == "__main__":
    unittest.main()
