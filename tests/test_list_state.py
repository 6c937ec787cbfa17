import unittest

from callforms import TOP, CallTest, begins, closes, find, list_of, opens, pass_days, save, share, state


def filled():
    return [begins(100, 7, 5), opens(9, 0, 10), opens(3, 9, 20), opens(6, 3, 0), save(9, 7, 500, "z"),
            save(3, 4, 300, "b"), pass_days(2), save(9, 8, 400, "a"), save(0, 1, 1, "m"), save(9, 9, 600, "k")]


class ListAnswers(CallTest):
    def test_no_entry(self):
        self.check([list_of(0)], [[0, 0]])
        self.check_changes_nothing(filled(), list_of(6), [0, 0])

    def test_several_in_the_order_of_saving(self):
        self.check_changes_nothing(filled(), list_of(9), [3, 24, 500, 7, 0, 400, 8, 2, 600, 9, 2])
        self.check_changes_nothing(filled(), list_of(3), [1, 4, 300, 4, 0])
        self.check_changes_nothing(filled(), list_of(0), [1, 1, 1, 1, 2])

    def test_its_own_alone(self):
        self.check_changes_nothing([opens(1, 0, 0), save(0, 1, 5, "a")], list_of(1), [0, 0])

    def test_order_of_saving_though_used_otherwise(self):
        self.check_changes_nothing(filled() + [find(9, "z")], list_of(9), [3, 24, 500, 7, 2, 400, 8, 2, 600, 9, 2])

    def test_after_some_went(self):
        setup = [begins(10, 7, 0), save(0, 4, 1, "a"), save(0, 4, 2, "b"), save(0, 5, 3, "c")]
        self.check_changes_nothing(setup, list_of(0), [2, 9, 2, 4, 0, 3, 5, 0])

    def test_forty(self):
        saves = [save(0, 2, 40 - number, f"k{number}") for number in range(40)]
        expected = [40, 80]
        for number in range(40):
            expected += [40 - number, 2, 0]
        self.check_changes_nothing(saves, list_of(0), expected)

    def test_highest_numbers(self):
        setup = [begins(1000000, 1000000, 0), opens(TOP, 0, 0), pass_days(1000000), save(TOP, 1000000, TOP, "a")]
        self.check_changes_nothing(setup, list_of(TOP), [1, 1000000, TOP, 1000000, 1000000])

    def test_no_such_branch(self):
        self.check_refused(filled(), list_of(1), -2)
        self.check_refused(filled(), list_of(TOP), -2)
        self.check_refused(filled() + [closes(9)], list_of(9), -2)


class StateAnswers(CallTest):
    def test_new_house(self):
        self.check([state()], [[1, 0, 0, 0, 0]])

    def test_branch_zero_comes_from_0(self):
        self.check([begins(50, 7, 20), save(0, 3, 1, "a"), state()], [[0], [0], [1, 0, 0, 20, 3]])

    def test_several_in_the_order_of_opening(self):
        self.check_changes_nothing(filled(), state(), [4, 0, 0, 5, 1, 9, 0, 10, 24, 3, 9, 20, 4, 6, 3, 0, 0])

    def test_after_closes_in_the_middle(self):
        self.check_changes_nothing(filled() + [closes(3)], state(), [3, 0, 0, 5, 1, 9, 0, 10, 24, 6, 9, 0, 0])

    def test_after_closes_next_to_branch_zero(self):
        self.check_changes_nothing(filled() + [closes(9)], state(), [3, 0, 0, 5, 1, 3, 0, 20, 4, 6, 3, 0, 0])

    def test_after_closes_of_several(self):
        for order in ((9, 3), (3, 9)):
            setup = filled() + [closes(order[0]), closes(order[1])]
            self.check_changes_nothing(setup, state(), [2, 0, 0, 5, 1, 6, 0, 0, 0])

    def test_opened_anew_stands_last(self):
        setup = filled() + [closes(9), opens(9, 6, 1)]
        self.check_changes_nothing(setup, state(), [4, 0, 0, 5, 1, 3, 0, 20, 4, 6, 3, 0, 0, 9, 6, 1, 0])

    def test_after_share(self):
        setup = filled() + [share(9, 1), share(0, 70)]
        self.check_changes_nothing(setup, state(), [4, 0, 0, 70, 1, 9, 0, 1, 24, 3, 9, 20, 4, 6, 3, 0, 0])

    def test_after_refused_share_and_closes(self):
        expected = [4, 0, 0, 5, 1, 9, 0, 10, 24, 3, 9, 20, 4, 6, 3, 0, 0]
        self.check(filled() + [share(9, 76), closes(0), state()], [[0], [2], [3], [4]] + [[0]] * 6
                   + [[-1], [-3], expected])

    def test_after_some_went(self):
        self.check_last(filled() + [pass_days(6), state()], [4, 0, 0, 5, 1, 9, 0, 10, 17, 3, 9, 20, 0, 6, 3, 0, 0])
        setup = [begins(10, 7, 0), opens(1, 0, 10), save(0, 4, 1, "a"), save(0, 6, 2, "b"), save(1, 2, 3, "a")]
        self.check_last(setup + [state()], [2, 0, 0, 0, 6, 1, 0, 10, 2])

    def test_after_begins(self):
        self.check_last(filled() + [begins(7, 0, 7), state()], [1, 0, 0, 7, 0])

    def test_eight_branches_and_highest_numbers(self):
        numbers = [TOP - step for step in range(7)]
        calls = [begins(1000000, 7, 0)]
        calls += [opens(number, 0 if number == TOP else number + 1, 1) for number in numbers]
        expected = [8, 0, 0, 0, 0]
        for number in numbers:
            expected += [number, 0 if number == TOP else number + 1, 1, 0]
        self.check_changes_nothing(calls, state(), expected)
        self.check_last(calls + [save(TOP, 1000000, 1, "a"), state()], expected[:8] + [1000000] + expected[9:])


if __name__ == "__main__":
    unittest.main()
