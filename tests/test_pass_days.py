import unittest

from callforms import TOP, CallTest, all_of, begins, find, house_after, list_of, opens, pass_days, save, state, would


def some(life):
    """Three entries on day 0, on two branches; the contents are not in the order of saving."""
    return [begins(100, life, 0), opens(1, 0, 0), save(1, 10, 30, "c"), save(0, 10, 10, "a"), save(1, 10, 20, "b")]


class PassAnswers(CallTest):
    def test_nothing_goes(self):
        self.check([pass_days(1), pass_days(5)], [[0], [0]])
        self.check_last(some(7) + [pass_days(7)], [0])

    def test_contents_in_the_order_of_saving(self):
        self.check_last(some(7) + [pass_days(8)], [3, 30, 10, 20])

    def test_order_of_saving_though_used_otherwise(self):
        setup = some(7) + [find(1, "b"), find(0, "a"), find(1, "c")]
        self.check_last(setup + [pass_days(8)], [3, 30, 10, 20])

    def test_only_the_old_ones_go(self):
        setup = some(7) + [pass_days(3), save(0, 10, 40, "d"), find(0, "a")]
        self.check_last(setup + [pass_days(5)], [2, 30, 20])
        self.check_last(setup + [pass_days(5), list_of(0)], [2, 20, 10, 10, 3, 40, 10, 3])
        self.check_last(setup + [pass_days(5), list_of(1)], [0, 0])
        self.check_last(setup + [pass_days(5), pass_days(3)], [2, 10, 40])

    def test_days_add_up(self):
        self.check_last(some(7) + [pass_days(3), pass_days(4)], [0])
        self.check_last(some(7) + [pass_days(3), pass_days(4), pass_days(1)], [3, 30, 10, 20])
        self.assertEqual(house_after([pass_days(3), pass_days(4)]).day, 7)

    def test_life_at_the_beginning_is_7(self):
        self.check_last([save(0, 1, 5, "a"), pass_days(7)], [0])
        self.check_last([save(0, 1, 5, "a"), pass_days(8)], [1, 5])

    def test_room_and_key_are_free_again(self):
        setup = [begins(10, 2, 10), opens(1, 0, 0), save(0, 10, 1, "a")]
        self.check_last(setup + [pass_days(3), save(0, 10, 2, "a")], [0])
        self.check_last(setup + [pass_days(3), would(1, 10)], [0])

    def test_branches_stay(self):
        self.check_last(some(7) + [pass_days(8), state()], [2, 0, 0, 0, 0, 1, 0, 0, 0])

    def test_goes_within_its_share_too(self):
        self.check_last([begins(10, 2, 10), save(0, 1, 1, "a"), pass_days(3)], [1, 1])


class PassEdges(CallTest):
    def test_no_day(self):
        self.check_refused(some(7), pass_days(0), -1)
        self.check_refused(some(0), pass_days(0), -1)
        self.check_refused(some(7) + [pass_days(5)], pass_days(0), -1)

    def test_highest_day(self):
        self.check_last(some(1000000) + [pass_days(1000000)], [0])
        self.check_last(some(1000000) + [pass_days(1000000), find(0, "a"), list_of(0)], [1, 10, 10, 10, 1000000])
        self.check_refused(some(7), pass_days(1000001), -1)
        self.check_refused(some(7), pass_days(TOP), -1)

    def test_highest_day_in_two_steps(self):
        setup = some(1000000) + [pass_days(999999)]
        self.check_last(setup + [pass_days(1)], [0])
        self.check_refused(setup, pass_days(2), -1)
        self.check_refused(setup, pass_days(TOP), -1)
        self.check_refused(setup + [pass_days(1)], pass_days(1), -1)

    def test_begins_makes_it_day_0_again(self):
        setup = [pass_days(1000000), begins(100, 7, 0)]
        self.check_last(setup + [save(0, 1, 5, "a"), list_of(0)], [1, 1, 5, 1, 0])
        self.check_last(setup + [pass_days(1000000)], [0])

    def test_refused_begins_does_not(self):
        self.check_refused([pass_days(5)], begins(0, 7, 0), -1)

    def test_life_0(self):
        self.check_last(some(0) + [pass_days(1)], [3, 30, 10, 20])
        self.check_last(some(0) + [pass_days(1), save(0, 1, 5, "d"), list_of(0)], [1, 1, 5, 1, 1])
        self.check_last(some(0) + [pass_days(1), save(0, 1, 5, "d"), pass_days(1)], [1, 5])

    def test_just_the_life_and_one_day_more(self):
        for life in (0, 1, 7, 500, 999999):
            setup = [begins(100, life, 0), save(0, 1, 5, "a")]
            with self.subTest(life=life):
                self.check_last(setup + [pass_days(life + 1)], [1, 5])
                if life > 0:
                    self.check_last(setup + [pass_days(life)], [0])

    def test_just_the_life_and_one_day_more_from_a_later_day(self):
        setup = [begins(100, 4, 0), pass_days(10), save(0, 1, 5, "a"), pass_days(2), save(0, 1, 6, "b")]
        self.check_last(setup + [pass_days(2)], [0])
        self.check_last(setup + [pass_days(3)], [1, 5])
        self.check_last(setup + [pass_days(4)], [1, 5])
        self.check_last(setup + [pass_days(5)], [2, 5, 6])

    def test_highest_life_takes_nothing(self):
        self.check_last([begins(100, 1000000, 0), save(0, 1, TOP, "a"), pass_days(1000000)], [0])
        self.check_last([begins(100, 999999, 0), save(0, 1, TOP, "a"), pass_days(1000000)], [1, TOP])

    def test_all_forty(self):
        saves = [save(0, 1, 100 - number, f"k{number}") for number in range(40)]
        self.check_last(saves + [pass_days(8)], [40] + [100 - number for number in range(40)])
        self.check_last(saves + [pass_days(8), save(0, 1, 5, "k0")], [0])

    def test_changes_nothing_but_the_day_and_what_goes(self):
        before = all_of(house_after(some(7)))
        after = all_of(house_after(some(7) + [pass_days(7)]))
        self.assertEqual(after, before[:2] + (7,) + before[3:])


if __name__ == "__main__":
    unittest.main()
