import contextlib
import io
import unittest

from branchcaches.caches import answers
from callforms import (
    TOP, CallTest, begins, closes, find, found, joined, list_of, opens, pass_days, save, share, state, would,
)


def refuse_change(self, *args, **kwargs):
    raise AssertionError("the list handed in is changed")


CHANGES = (
    "__setitem__", "__delitem__", "__iadd__", "__imul__", "append", "clear", "extend", "insert", "pop",
    "remove", "reverse", "sort",
)
Guarded = type("Guarded", (list,), {name: refuse_change for name in CHANGES})


def some_of_all():
    return joined([
        begins(50, 3, 10), opens(1, 0, 20), save(1, 30, 5, "a"), save(0, 30, 6, "b"), share(1, 5), save(1, 5, 7, "c"),
        save(1, 5, 8, ""), find(1, "c"), find(1, "x", "y", "b"), find(1, "C"), would(0, 15), would(0, 16), list_of(1),
        state(), pass_days(4), pass_days(0), list_of(2), closes(1), closes(1),
    ])


class TheForm(CallTest):
    def test_whole_list(self):
        calls = [0, 3, 50, 3, 10, 0, 1, 3, 1, 0, 20, 0, 4, 3, 1, 30, 5, 1, 1, 97, 4, 3, 0, 50, 6, 1, 2, 98, 45,
                 3, 2, 1, 5, 0, 4, 3, 1, 5, 7, 1, 0, 2, 1, 1, 0]
        self.assertEqual(answers(calls), [1, 0, 1, 2, 1, 0, 2, 1, 5, 1, 0, 1, -5, 1, 0])

    def test_every_call_alone(self):
        self.assertEqual(answers(begins(50, 3, 10)), [1, 0])
        self.assertEqual(answers(opens(1, 0, 10)), [1, 2])
        self.assertEqual(answers(closes(0)), [1, -3])
        self.assertEqual(answers(share(0, 100)), [1, 0])
        self.assertEqual(answers(save(0, 100, 1, "a")), [1, 0])
        self.assertEqual(answers(find(0, "a", "b")), [1, -8])
        self.assertEqual(answers(would(0, 100)), [1, 0])
        self.assertEqual(answers(pass_days(1)), [1, 0])
        self.assertEqual(answers(list_of(0)), [2, 0, 0])
        self.assertEqual(answers(state()), [5, 1, 0, 0, 0, 0])

    def test_whole_list_of_the_later_calls(self):
        calls = [4, 3, 0, 50, 6, 1, 2, 98, 45, 1, 3, 4, 0, 9, 0, 5, 1, 4, 1, 2, 98, 45, 5, 1, 4, 4, 1, 97, 1,
                 99, 0, 1, 98, 6, 2, 4, 60, 0, 8, 1, 0, 0, 9, 0, 0, 7, 1, 8, 0, 8, 1, 0, 0, 5, 1, 0, 1, 0]
        self.assertEqual(answers(calls), [
            1, 0, 1, 2, 6, 0, 0, 6, 50, 98, 45, 6, 2, 0, 6, 50, 98, 45, 2, 1, 6, 5, 1, 50, 6, 50, 0,
            9, 2, 0, 0, 0, 50, 4, 0, 9, 0, 2, 1, 6, 2, 0, 0, 1, -5])

    def test_some_of_all(self):
        self.assertEqual(answers(some_of_all()),
                         [1, 0, 1, 2, 1, 0, 2, 1, 5, 1, 0, 1, 0, 1, -5, 5, 0, 1, 7, 5, 99, 5, 2, 0, 6, 30, 98, 1, -5,
                          1, 0, 2, 1, 6, 5, 1, 5, 7, 5, 0, 9, 2, 0, 0, 10, 30, 1, 0, 5, 5, 3, 2, 6, 7, 1, -1, 1, -2,
                          1, 0, 1, -2])

    def test_sixty_calls(self):
        self.assertEqual(answers(joined([save(0, 100, number, f"k{number}") for number in range(60)])),
                         [1, 0] + joined([[2, 1, number] for number in range(59)]))

    def test_answers_are_plain_whole_numbers(self):
        found = answers(some_of_all())
        self.assertIs(type(found), list)
        for number in found:
            self.assertIs(type(number), int)

    def test_longest_key_handed_in(self):
        self.assertEqual(answers(save(0, 1, 1, [255] * 30) + save(0, 1, 1, [97] * 24)), [1, -5, 1, 0])

    def test_longest_list_handed_in(self):
        longest = find(TOP, [255] * 30, *[[255] * 30] * 6)
        self.assertEqual(len(longest), 221)
        self.assertEqual(answers(longest * 60), [1, -2] * 60)
        here = find(0, [97] * 30, *[[97] * 30] * 6)
        self.assertEqual(answers(here * 60), [1, -5] * 60)

    def test_empty_lists_handed_in(self):
        calls = [5, 1, 0, 7, 0, 0, 0, 0, 0, 0, 0, 5, 1, 0, 1, 0, 9, 0, 0]
        self.assertEqual(answers(calls), [1, -5, 1, -5, 5, 1, 0, 0, 0, 0])

    def test_highest_numbers_everywhere(self):
        self.check([begins(TOP, TOP, TOP), opens(TOP, TOP, TOP), closes(TOP), share(TOP, TOP),
                    save(TOP, TOP, TOP, [255] * 30), share(0, TOP), save(0, TOP, TOP, "a"), opens(TOP, 0, 100),
                    save(TOP, 100, TOP, "a"), closes(TOP)],
                   [[-1], [-2], [-2], [-2], [-2], [-1], [-1], [2], [0], [1, TOP]])

    def test_highest_numbers_in_the_later_calls(self):
        self.check([find(TOP, [255] * 30, *[[255] * 30] * 6), would(TOP, TOP), would(0, TOP), pass_days(TOP),
                    list_of(TOP), opens(TOP, 0, 100), save(TOP, 100, TOP, "a"), find(TOP, "a"), would(TOP, 1),
                    list_of(TOP), state()],
                   [[-2], [-2], [-1], [-1], [-2], [2], [0], found(0, TOP, TOP, 100, "a"), [1, TOP],
                    [1, 100, TOP, 100, 0], [2, 0, 0, 0, 0, TOP, 0, 100, 100]])


class NothingKept(CallTest):
    def test_list_handed_in_stays(self):
        calls = some_of_all()
        before = list(calls)
        answers(calls)
        self.assertEqual(calls, before)

    def test_list_handed_in_is_not_changed_for_a_while_either(self):
        self.assertEqual(answers(Guarded(some_of_all())), answers(some_of_all()))

    def test_second_time_as_if_for_the_first(self):
        calls = joined([state(), find(0, "a", ""), opens(1, 0, 60), save(1, 60, 5, "a"), save(0, 40, 6, "b"),
                        pass_days(2), find(0, "b"), list_of(0)])
        first = answers(calls)
        self.assertEqual(first, [5, 1, 0, 0, 0, 0, 1, -8, 1, 2, 1, 0, 1, 0,
                                 1, 0, 5, 0, 0, 6, 40, 98, 5, 1, 40, 6, 40, 2])
        self.assertEqual(answers(calls), first)
        answers(joined([begins(10, 0, 10), save(0, 10, 1, "a"), pass_days(1000000)]))
        self.assertEqual(answers(calls), first)

    def test_answers_given_back_are_not_shared(self):
        first = answers(some_of_all())
        expected = list(first)
        first.clear()
        self.assertEqual(answers(some_of_all()), expected)

    def test_prints_nothing(self):
        out = io.StringIO()
        with contextlib.redirect_stdout(out), contextlib.redirect_stderr(out):
            answers(some_of_all())
        self.assertEqual(out.getvalue(), "")


if __name__ == "__main__":
    unittest.main()
