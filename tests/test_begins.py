import unittest

from callforms import TOP, CallTest, all_of, begins, closes, house_after, opens, save, share


def filled():
    return [begins(50, 3, 10), opens(1, 0, 20), save(1, 30, 5, "a"), save(0, 20, 6, "b")]


class BeginsAnswers(CallTest):
    def test_answers_zero(self):
        self.check([begins(50, 3, 10)], [[0]])

    def test_sets_room_life_and_share(self):
        house = house_after([begins(50, 3, 10)])
        self.assertEqual(all_of(house), (50, 3, 0, 0, [(0, 0, 10)], []))

    def test_room_is_what_was_told(self):
        self.check_last([begins(50, 3, 10), save(0, 50, 1, "a")], [0])
        self.check_refused([begins(50, 3, 10)], save(0, 51, 1, "a"), -1)

    def test_share_counts_for_branch_zero(self):
        self.check_last([begins(50, 3, 10), opens(1, 0, 40)], [2])
        self.check_refused([begins(50, 3, 10)], opens(1, 0, 41), -1)

    def test_second_begins_makes_all_new(self):
        house = house_after(filled() + [begins(60, 4, 0)])
        self.assertEqual(all_of(house), (60, 4, 0, 0, [(0, 0, 0)], []))

    def test_second_begins_seen_by_the_calls(self):
        tail = [closes(1), opens(1, 0, 60), closes(1), save(0, 60, 7, "b")]
        self.check(filled() + [begins(60, 4, 0)] + tail,
                   [[0], [2], [0], [0], [0], [-2], [2], [0], [0]])

    def test_same_begins_again_makes_all_new(self):
        house = house_after(filled() + [begins(50, 3, 10)])
        self.assertEqual(all_of(house), all_of(house_after([begins(50, 3, 10)])))


class BeforeAnyBegins(CallTest):
    def test_new_house(self):
        self.assertEqual(all_of(house_after([])), (100, 7, 0, 0, [(0, 0, 0)], []))

    def test_room_is_100(self):
        self.check([save(0, 100, 1, "a")], [[0]])
        self.check([save(0, 101, 1, "a")], [[-1]])

    def test_share_of_branch_zero_is_0(self):
        self.check([opens(1, 0, 100)], [[2]])
        self.check([opens(1, 0, 101)], [[-1]])

    def test_only_branch_zero_is_there(self):
        self.check([opens(0, 0, 0), closes(1), share(1, 0), save(1, 1, 1, "a")],
                   [[-4], [-2], [-2], [-2]])


class BeginsEdges(CallTest):
    def test_room(self):
        self.check_refused(filled(), begins(0, 7, 0), -1)
        self.check_last([begins(1, 7, 0), save(0, 1, 9, "a")], [0])
        self.check_last([begins(1000000, 7, 0), save(0, 1000000, 9, "a")], [0])
        self.check_refused(filled(), begins(1000001, 7, 0), -1)
        self.check_refused(filled(), begins(TOP, 7, 0), -1)

    def test_life(self):
        self.assertEqual(house_after([begins(10, 0, 0)]).life, 0)
        self.check([begins(10, 0, 0)], [[0]])
        self.check([begins(10, 1000000, 0)], [[0]])
        self.assertEqual(house_after([begins(10, 1000000, 0)]).life, 1000000)
        self.check_refused(filled(), begins(10, 1000001, 0), -1)
        self.check_refused(filled(), begins(10, TOP, 0), -1)

    def test_share(self):
        self.check([begins(10, 7, 0)], [[0]])
        self.check([begins(10, 7, 10)], [[0]])
        self.check_refused(filled(), begins(10, 7, 11), -1)
        self.check([begins(1000000, 7, 1000000)], [[0]])
        self.check_refused(filled(), begins(1000000, 7, 1000001), -1)
        self.check_refused(filled(), begins(10, 7, TOP), -1)

    def test_share_is_held_against_the_new_room(self):
        self.check([begins(10, 7, 0), begins(50, 7, 40)], [[0], [0]])
        self.check_refused([begins(50, 7, 0)], begins(10, 7, 40), -1)

    def test_all_wrong_at_once(self):
        self.check_refused(filled(), begins(0, TOP, TOP), -1)
        self.check_refused(filled(), begins(TOP, TOP, TOP), -1)


if __name__ == "__main__":
    unittest.main()
