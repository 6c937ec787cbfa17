import unittest

from callforms import TOP, CallTest, begins, closes, find, found, opens, save

ALLOWED = [45, 46, 47] + list(range(48, 58)) + list(range(97, 123))


def line():
    """0 <- 4 <- 2 <- 7, and 9 beside 2."""
    return [opens(4, 0, 10), opens(2, 4, 10), opens(7, 2, 10), opens(9, 4, 10)]


class ByTheKey(CallTest):
    def test_whole_answer(self):
        self.check([save(0, 12, 345, "lib/a-1.z"), find(0, "lib/a-1.z")],
                   [[0], [0, 0, 345, 12, 108, 105, 98, 47, 97, 45, 49, 46, 122]])

    def test_on_the_branch_itself(self):
        self.check_last(line() + [save(7, 3, 70, "a"), find(7, "a")], found(0, 7, 70, 3, "a"))

    def test_on_the_one_it_comes_from(self):
        self.check_last(line() + [save(2, 3, 20, "a"), find(7, "a")], found(0, 2, 20, 3, "a"))

    def test_farther_down_the_line(self):
        self.check_last(line() + [save(4, 3, 40, "a"), find(7, "a")], found(0, 4, 40, 3, "a"))
        self.check_last(line() + [save(0, 3, 1, "a"), find(7, "a")], found(0, 0, 1, 3, "a"))

    def test_nearer_goes_ahead_of_farther(self):
        saves = [save(0, 1, 1, "a"), save(4, 2, 40, "a"), save(2, 3, 20, "a"), save(7, 4, 70, "a")]
        self.check_last(line() + saves + [find(7, "a")], found(0, 7, 70, 4, "a"))
        self.check_last(line() + saves + [find(2, "a")], found(0, 2, 20, 3, "a"))
        self.check_last(line() + saves + [find(4, "a")], found(0, 4, 40, 2, "a"))
        self.check_last(line() + saves + [find(0, "a")], found(0, 0, 1, 1, "a"))
        self.check_last(line() + saves[::-1] + [find(7, "a")], found(0, 7, 70, 4, "a"))

    def test_key_goes_ahead_of_beginnings_on_the_same_branch(self):
        calls = [save(0, 1, 1, "ab"), save(0, 1, 2, "abc"), save(0, 1, 3, "x"), find(0, "ab", "x", "abc", "ab")]
        self.check_last(calls, found(0, 0, 1, 1, "ab"))

    def test_only_the_whole_key(self):
        setup = [save(0, 1, 1, "abc")]
        for key in ("ab", "abcd", "bc", "abd", "bca"):
            self.check_refused(setup, find(0, key), -8)

    def test_not_off_the_line(self):
        setup = line() + [save(9, 1, 90, "a"), save(7, 1, 70, "b"), save(2, 1, 20, "c")]
        self.check_refused(setup, find(7, "a", "a"), -8)
        self.check_refused(setup, find(9, "b", "b"), -8)
        self.check_refused(setup, find(4, "a", ""), -8)
        self.check_refused(setup, find(0, "a", "", "b"), -8)

    def test_not_what_comes_from_it(self):
        setup = [opens(1, 0, 0), save(1, 1, 5, "a")]
        self.check_refused(setup, find(0, "a", ""), -8)


class ByABeginning(CallTest):
    def test_whole_answer(self):
        self.check([save(0, 12, 345, "abc"), find(0, "b", "ab")], [[0], [1, 0, 345, 12, 97, 98, 99]])

    def test_on_each_branch_of_the_line(self):
        self.check_last(line() + [save(7, 3, 70, "abc"), find(7, "b", "ab")], found(1, 7, 70, 3, "abc"))
        self.check_last(line() + [save(2, 3, 20, "abc"), find(7, "b", "ab")], found(1, 2, 20, 3, "abc"))
        self.check_last(line() + [save(4, 3, 40, "abc"), find(7, "b", "ab")], found(1, 4, 40, 3, "abc"))
        self.check_last(line() + [save(0, 3, 1, "abc"), find(7, "b", "ab")], found(1, 0, 1, 3, "abc"))

    def test_nearer_goes_ahead_of_the_key_farther_on(self):
        setup = line() + [save(0, 1, 1, "key"), save(4, 1, 40, "key"), save(2, 1, 20, "kex")]
        self.check_last(setup + [find(7, "key", "a", "ke")], found(2, 2, 20, 1, "kex"))
        self.check_last(setup + [find(7, "key", "a", "key")], found(0, 4, 40, 1, "key"))

    def test_later_beginning_nearer_goes_ahead_of_an_earlier_one_farther_on(self):
        setup = line() + [save(4, 1, 40, "aa"), save(7, 1, 70, "bb")]
        self.check_last(setup + [find(7, "key", "a", "c", "d", "b")], found(4, 7, 70, 1, "bb"))
        self.check_last(setup + [find(2, "key", "a", "c", "d", "b")], found(1, 4, 40, 1, "aa"))

    def test_first_that_fits_goes_ahead_of_a_later_one(self):
        setup = [save(0, 1, 1, "a1"), save(0, 1, 2, "b1"), save(0, 1, 3, "c1")]
        self.check_last(setup + [find(0, "key", "a", "b", "c")], found(1, 0, 1, 1, "a1"))
        self.check_last(setup + [find(0, "key", "c", "b", "a")], found(1, 0, 3, 1, "c1"))
        self.check_last(setup + [find(0, "key", "x", "b", "a", "c")], found(2, 0, 2, 1, "b1"))
        self.check_last(setup + [find(0, "key", "x", "y", "a", "c")], found(3, 0, 1, 1, "a1"))
        self.check_last(setup + [find(0, "key", "x", "y", "z", "c")], found(4, 0, 3, 1, "c1"))

    def test_same_beginning_twice_is_the_first(self):
        self.check_last([save(0, 1, 1, "a1"), find(0, "key", "b", "a", "a")], found(2, 0, 1, 1, "a1"))

    def test_shorter_first_or_longer_first(self):
        setup = [save(0, 1, 1, "abc"), save(0, 1, 2, "ax")]
        self.check_last(setup + [find(0, "key", "abc", "a")], found(1, 0, 1, 1, "abc"))
        self.check_last(setup + [find(0, "key", "a", "abc")], found(1, 0, 2, 1, "ax"))

    def test_of_several_the_one_saved_last(self):
        setup = [save(0, 3, 1, "a3"), save(0, 4, 2, "a1"), save(0, 5, 3, "a2"), save(0, 6, 4, "b")]
        self.check_last(setup + [find(0, "key", "a")], found(1, 0, 3, 5, "a2"))

    def test_saved_last_though_another_was_used_later(self):
        setup = [save(0, 3, 1, "a3"), save(0, 4, 2, "a1"), find(0, "a3"), find(0, "a3")]
        self.check_last(setup + [find(0, "key", "a")], found(1, 0, 2, 4, "a1"))
        self.check_last(setup + [find(0, "key", "a3"), find(0, "key", "a")], found(1, 0, 2, 4, "a1"))

    def test_saved_last_on_the_nearest_branch_alone(self):
        setup = line() + [save(2, 1, 20, "a1"), save(2, 1, 21, "a2"), save(4, 1, 40, "a3"), save(9, 1, 90, "a4")]
        self.check_last(setup + [find(7, "key", "a")], found(1, 2, 21, 1, "a2"))

    def test_saved_anew_is_saved_last(self):
        setup = [begins(10, 7, 0), save(0, 6, 1, "a1"), save(0, 4, 2, "a2"), save(0, 5, 3, "x")]
        self.check_last(setup + [find(0, "key", "a")], found(1, 0, 2, 4, "a2"))
        self.check_last(setup + [save(0, 1, 4, "a1"), find(0, "key", "a")], found(1, 0, 4, 1, "a1"))

    def test_empty_beginning(self):
        setup = [save(0, 1, 1, "a"), save(0, 2, 2, "z"), save(0, 3, 3, "m")]
        self.check_last(setup + [find(0, "key", "")], found(1, 0, 3, 3, "m"))
        self.check_last(setup + [find(0, "key", "z", "")], found(1, 0, 2, 2, "z"))
        self.check_last(setup + [find(0, "key", "b", "", "z")], found(2, 0, 3, 3, "m"))
        self.check_last(setup + [find(0, "a", "")], found(0, 0, 1, 1, "a"))

    def test_empty_beginning_with_nothing_near(self):
        self.check_last(line() + [save(4, 1, 40, "a"), find(7, "key", "")], found(1, 4, 40, 1, "a"))
        self.check_refused(line(), find(7, "key", ""), -8)

    def test_beginning_that_is_a_whole_key(self):
        setup = [save(0, 1, 1, "abc"), save(0, 1, 2, "b")]
        self.check_last(setup + [find(0, "key", "abc")], found(1, 0, 1, 1, "abc"))
        self.check_refused(setup, find(0, "key", "abcd"), -8)

    def test_beginning_that_is_the_key_asked_for(self):
        self.check_last([save(0, 1, 1, "abc"), find(0, "abc", "abc")], found(0, 0, 1, 1, "abc"))
        self.check_last([save(0, 1, 1, "abcd"), find(0, "abc", "abc")], found(1, 0, 1, 1, "abcd"))

    def test_only_how_a_key_begins(self):
        setup = [save(0, 1, 1, "abc")]
        for beginning in ("b", "c", "bc", "ac", "abd"):
            self.check_refused(setup, find(0, "key", beginning), -8)

    def test_the_key_asked_for_is_no_beginning(self):
        self.check_refused([save(0, 1, 1, "abc")], find(0, "ab", "x"), -8)


class AfterCloses(CallTest):
    def setUp(self):
        self.filled = line() + [save(0, 1, 1, "a"), save(4, 1, 40, "b"), save(2, 1, 20, "c")]

    def test_middle_of_the_line(self):
        setup = self.filled + [closes(2)]
        self.check_last(setup + [find(7, "b")], found(0, 4, 40, 1, "b"))
        self.check_last(setup + [find(7, "a")], found(0, 0, 1, 1, "a"))
        self.check_refused(setup, find(7, "c"), -8)

    def test_next_to_branch_zero(self):
        setup = self.filled + [closes(4)]
        self.check_last(setup + [find(7, "c")], found(0, 2, 20, 1, "c"))
        self.check_last(setup + [find(7, "a")], found(0, 0, 1, 1, "a"))
        self.check_last(setup + [find(9, "a")], found(0, 0, 1, 1, "a"))
        self.check_refused(setup, find(7, "b"), -8)

    def test_both(self):
        for first, second in ((2, 4), (4, 2)):
            setup = self.filled + [closes(first), closes(second)]
            self.check_last(setup + [find(7, "z", "b", "")], found(2, 0, 1, 1, "a"))

    def test_number_anew_is_not_on_the_old_line(self):
        setup = self.filled + [closes(2), opens(2, 0, 10), save(2, 1, 21, "c")]
        self.check_refused(setup, find(7, "c"), -8)
        self.check_last(setup + [find(2, "c")], found(0, 2, 21, 1, "c"))
        self.check_refused(setup, find(2, "b"), -8)


class Bounds(CallTest):
    def test_key_lengths(self):
        setup = [save(0, 1, 1, "a"), save(0, 2, 2, "b" * 24)]
        self.check_refused(setup, find(0, ""), -5)
        self.check_last(setup + [find(0, "a")], found(0, 0, 1, 1, "a"))
        self.check_last(setup + [find(0, "b" * 24)], found(0, 0, 2, 2, "b" * 24))
        self.check_refused(setup, find(0, "b" * 25), -5)
        self.check_refused(setup, find(0, "b" * 30), -5)

    def test_empty_key_though_a_beginning_fits(self):
        self.check_refused([save(0, 1, 1, "a")], find(0, "", "a"), -5)
        self.check_refused([save(0, 1, 1, "a")], find(0, "", ""), -5)

    def test_beginning_lengths(self):
        setup = [save(0, 1, 1, "b" * 24)]
        self.check_last(setup + [find(0, "key", "b" * 23)], found(1, 0, 1, 1, "b" * 24))
        self.check_last(setup + [find(0, "key", "b" * 24)], found(1, 0, 1, 1, "b" * 24))
        self.check_refused(setup, find(0, "key", "b" * 25), -5)
        self.check_refused(setup, find(0, "key", "b" * 30), -5)

    def test_every_byte_of_a_key(self):
        for byte in range(256):
            expected = [-8] if byte in ALLOWED else [-5]
            with self.subTest(byte=byte):
                self.check([find(0, [byte]), find(0, [97, byte]), find(0, [byte] + [97] * 23)], [expected] * 3)

    def test_every_byte_of_a_beginning(self):
        for byte in range(256):
            expected = [-8] if byte in ALLOWED else [-5]
            with self.subTest(byte=byte):
                rows = [[byte], [97, byte], [97] * 23 + [byte]]
                self.check([find(0, "key", row) for row in rows], [expected] * 3)
                self.check([find(0, "key", "a", "", "b", row) for row in rows], [expected] * 3)

    def test_wrong_beginning_anywhere(self):
        setup = [save(0, 1, 1, "key")]
        for wrong in ("b" * 25, "A", "a_", [255] * 30, [0], [128]):
            self.check_refused(setup, find(0, "key", wrong), -5)
            self.check_refused(setup, find(0, "key", "k", wrong), -5)
            self.check_refused(setup, find(0, "key", wrong, "k"), -5)
            self.check_refused(setup, find(0, "key", "k", "", "a", wrong), -5)

    def test_how_many_beginnings(self):
        setup = [save(0, 1, 1, "abc")]
        self.check_refused(setup, find(0, "key"), -8)
        self.check_last(setup + [find(0, "key", "x", "y", "z", "a")], found(4, 0, 1, 1, "abc"))
        self.check_refused(setup, find(0, "key", "a", "y", "z", "x", "w"), -5)
        self.check_refused(setup, find(0, "key", "a", "y", "z", "x", "w", "v"), -5)
        self.check_refused(setup, find(0, "abc", "a", "a", "a", "a", "a"), -5)
        self.check_refused(setup, find(0, "abc", "", "", "", "", ""), -5)
        self.check_refused(setup, find(0, "abc", "", "", "", "", "", ""), -5)

    def test_highest_numbers(self):
        setup = [begins(1000000, 1000000, 0), opens(TOP, 0, 0), opens(TOP - 1, TOP, 0), save(TOP, 1000000, TOP, "a")]
        self.check_last(setup + [find(TOP - 1, "a")], found(0, TOP, TOP, 1000000, "a"))


class FindRefusals(CallTest):
    def test_no_such_branch(self):
        setup = [opens(1, 0, 0), save(0, 1, 1, "a")]
        self.check_refused(setup, find(2, "a"), -2)
        self.check_refused(setup, find(TOP, "a"), -2)
        self.check_refused(setup + [closes(1)], find(1, "a"), -2)

    def test_nothing_found(self):
        self.check_refused([], find(0, "a"), -8)
        self.check_refused([], find(0, "a", "", "a"), -8)
        self.check_refused([opens(1, 0, 0), save(0, 1, 1, "a")], find(1, "b", "c"), -8)

    def test_nothing_found_when_it_went(self):
        setup = [begins(10, 7, 0), save(0, 6, 1, "a"), save(0, 6, 2, "b")]
        self.check_refused(setup, find(0, "a", "a"), -8)

    def test_no_branch_is_told_ahead_of_all(self):
        setup = [save(0, 1, 1, "a")]
        self.check_refused(setup, find(1, ""), -2)
        self.check_refused(setup, find(1, "a", "A"), -2)
        self.check_refused(setup, find(1, "a", "a" * 25), -2)
        self.check_refused(setup, find(1, "b", "", "", "", "", ""), -2)
        self.check_refused(setup, find(1, "b"), -2)

    def test_no_key_is_told_ahead_of_nothing_found(self):
        self.check_refused([], find(0, ""), -5)
        self.check_refused([], find(0, "B"), -5)
        self.check_refused([], find(0, "b", "B"), -5)
        self.check_refused([], find(0, "b", "b" * 25), -5)
        self.check_refused([], find(0, "b", "b", "b", "b", "b", "b"), -5)


if __name__ == "__main__":
    unittest.main()
