import unittest

from callforms import TOP, CallTest, all_of, begins, closes, house_after, opens, save

ALLOWED = [45, 46, 47] + list(range(48, 58)) + list(range(97, 123))


def forty():
    """A house with 40 entries of size 1, 20 on each of two branches; 960 of the room is free."""
    saves = [save(number % 2, 1, number, f"k{number}") for number in range(40)]
    return [begins(1000, 7, 0), opens(1, 0, 0)] + saves


def halved():
    """Branch 0 holds just its half of the room, branch 1 has the other half free."""
    return [begins(10, 7, 5), opens(1, 0, 5), save(0, 5, 1, "a")]


class SaveAnswers(CallTest):
    def test_with_enough_room(self):
        self.check([save(0, 10, 1, "a"), save(0, 90, 2, "b")], [[0], [0]])

    def test_keeps_the_entry(self):
        house = house_after([opens(3, 0, 0), save(3, 10, 8, "lib/a-1.z"), save(0, 1, TOP, "b")])
        key = tuple(ord(sign) for sign in "lib/a-1.z")
        self.assertEqual(all_of(house)[5], [(3, 10, 8, key, 1, 0), (0, 1, TOP, (98,), 2, 0)])

    def test_highest_content_and_branch(self):
        self.check_last([opens(TOP, 0, 0), save(TOP, 1, TOP, "a"), closes(TOP)], [1, TOP])


class SaveSizes(CallTest):
    def test_edges(self):
        self.check_refused([begins(20, 7, 0)], save(0, 0, 1, "a"), -1)
        self.check_last([begins(20, 7, 0), save(0, 1, 1, "a")], [0])
        self.check_last([begins(20, 7, 0), save(0, 20, 1, "a")], [0])
        self.check_refused([begins(20, 7, 0)], save(0, 21, 1, "a"), -1)
        self.check_refused([begins(20, 7, 0)], save(0, TOP, 1, "a"), -1)

    def test_above_the_room_though_others_could_go(self):
        self.check_refused([begins(20, 7, 0), save(0, 20, 1, "a")], save(0, 21, 2, "b"), -1)


class SaveKeys(CallTest):
    def test_lengths(self):
        self.check_refused([], save(0, 1, 1, ""), -5)
        self.check([save(0, 1, 1, "a")], [[0]])
        self.check([save(0, 1, 1, "a" * 24)], [[0]])
        self.check_refused([], save(0, 1, 1, "a" * 25), -5)
        self.check_refused([], save(0, 1, 1, "a" * 30), -5)

    def test_every_byte(self):
        for byte in range(256):
            expected = [0] if byte in ALLOWED else [-5]
            with self.subTest(byte=byte):
                self.check([save(0, 1, 1, [byte])], [expected])
                self.check([save(0, 1, 1, [97, byte])], [expected])
                self.check([save(0, 1, 1, [byte] + [97] * 23)], [expected])
                self.check([save(0, 1, 1, [97] * 23 + [byte])], [expected])

    def test_bytes_just_beside(self):
        for byte in (0, 44, 58, 96, 123, 65, 90, 95, 255):
            self.check_refused([save(0, 1, 1, "a")], save(0, 1, 1, [97, byte, 97]), -5)

    def test_same_key_on_the_same_branch(self):
        self.check_refused([save(0, 1, 1, "ab")], save(0, 1, 2, "ab"), -4)
        self.check_refused([save(0, 1, 1, "ab"), save(0, 1, 2, "b")], save(0, 1, 3, "ab"), -4)

    def test_same_key_on_another_branch(self):
        self.check([opens(1, 0, 0), save(0, 1, 1, "ab"), save(1, 1, 2, "ab")], [[2], [0], [0]])

    def test_keys_that_only_begin_alike(self):
        self.check([save(0, 1, 1, "ab"), save(0, 1, 2, "a"), save(0, 1, 3, "abc"), save(0, 1, 4, "ba")], [[0]] * 4)

    def test_key_is_free_again_when_its_entry_went(self):
        calls = [begins(10, 7, 0), save(0, 6, 1, "a"), save(0, 6, 2, "b"), save(0, 6, 3, "a")]
        self.check(calls, [[0], [0], [1, 1], [1, 2]])

    def test_key_is_free_again_when_its_branch_closed(self):
        self.check_last([opens(1, 0, 0), save(1, 1, 1, "a"), closes(1), opens(1, 0, 0), save(1, 1, 2, "a")], [0])

    def test_key_that_would_have_to_go_is_there_still(self):
        self.check_refused([begins(10, 7, 0), save(0, 6, 1, "a")], save(0, 6, 2, "a"), -4)


class SaveCounts(CallTest):
    def test_fortieth_and_forty_first(self):
        self.check_last(forty(), [0])
        self.check_refused(forty(), save(0, 1, 99, "new"), -7)
        self.check_refused(forty(), save(1, 1, 99, "new"), -7)

    def test_forty_though_some_would_have_to_go(self):
        self.check_refused(forty(), save(0, 1000, 99, "new"), -7)

    def test_again_when_a_branch_closed(self):
        self.check_last(forty() + [closes(1), save(0, 1, 99, "new")], [0])

    def test_fortieth_while_some_go(self):
        calls = forty()[:-1] + [save(0, 963, 99, "new")]
        self.check_last(calls, [2, 0, 2])
        self.assertEqual(len(house_after(calls).entries), 38)


class SaveRefusals(CallTest):
    def test_no_such_branch(self):
        self.check_refused([opens(1, 0, 0)], save(2, 1, 1, "a"), -2)
        self.check_refused([opens(1, 0, 0)], save(TOP, 1, 1, "a"), -2)
        self.check_refused([opens(1, 0, 0), closes(1)], save(1, 1, 1, "a"), -2)

    def test_no_room(self):
        self.check_refused(halved(), save(1, 6, 3, "c"), -6)

    def test_no_branch_is_told_ahead_of_all(self):
        self.check_refused(forty(), save(9, 0, 1, ""), -2)
        self.check_refused(forty(), save(9, 1001, 1, "a"), -2)
        self.check_refused(forty(), save(9, 1, 1, "A"), -2)
        self.check_refused(forty(), save(9, 1, 1, "k0"), -2)
        self.check_refused(halved(), save(9, 6, 1, "c"), -2)

    def test_size_is_told_ahead_of_key_and_the_rest(self):
        self.check_refused(forty(), save(0, 0, 1, ""), -1)
        self.check_refused(forty(), save(0, 1001, 1, "A"), -1)
        self.check_refused(forty(), save(0, 0, 1, "k0"), -1)
        self.check_refused(forty(), save(0, 0, 1, "new"), -1)
        self.check_refused(halved(), save(1, 11, 1, "c"), -1)

    def test_no_key_is_told_ahead_of_counts_and_room(self):
        self.check_refused(forty(), save(0, 1, 1, ""), -5)
        self.check_refused(halved(), save(1, 6, 1, "C"), -5)

    def test_same_key_is_told_ahead_of_counts_and_room(self):
        self.check_refused(forty(), save(0, 1, 1, "k0"), -4)
        crowded = halved() + [save(1, 1, 2, "b")]
        self.check_refused(crowded, save(1, 6, 3, "c"), -6)
        self.check_refused(crowded, save(1, 6, 3, "b"), -4)

    def test_counts_are_told_ahead_of_room(self):
        saves = [save(0, 1, number, f"k{number}") for number in range(40)]
        self.check_refused([begins(50, 7, 40), opens(1, 0, 10)] + saves, save(1, 11, 1, "a"), -7)
        self.check_refused([begins(50, 7, 40), opens(1, 0, 10)] + saves[:-1], save(1, 12, 1, "a"), -6)


if __name__ == "__main__":
    unittest.main()
