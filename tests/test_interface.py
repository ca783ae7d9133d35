"""The interface: how calls are handed in and answers given back."""

import inspect
import sys
import unittest

from helpers import ask, form_call, next_call, path_call, set_call, size_call, trip_call
from proofpaths.structure import answers


class Lines(unittest.TestCase):
    def test_answers_one_behind_another_with_their_counts(self):
        line = size_call() + set_call("a|b, ~a|~b ; ; 0-2 1-3") + size_call() + next_call(0, [1, 0])
        line += trip_call(0, [0, 0]) + path_call([0, 0]) + path_call([0]) + set_call("x") + form_call()
        form = list(b"a|b, ~a|~b ;  ; 0-2 1-3")
        expected = [3, 2, 0, 4, 1, 4, 3, 6, 2, 12, 1, 4, 1, 8, 9, 8, 0, 2, 9, 7, 6, 8, 3, 1, 1, -1, 1, -1]
        self.assertEqual(answers(line), expected + [1 + len(form), len(form)] + form)

    def test_whole_numbers_in_a_list(self):
        given = answers(form_call() + size_call() + path_call([]) + next_call(9, []))
        self.assertIs(type(given), list)
        self.assertEqual({type(number) for number in given}, {int})

    def test_what_is_handed_in_is_not_changed(self):
        line = set_call("a|b, ~a|~b ; ; 0-2 1-3") + path_call([0, 1]) + set_call("?") + trip_call(3, [1, 1])
        kept = list(line)
        answers(line)
        self.assertEqual(line, kept)

    def test_nothing_is_kept(self):
        first = ask(form_call(), path_call([]))
        ask(set_call("b, ~b ; b ; 0-3 1-2"))
        self.assertEqual(ask(form_call(), path_call([])), first)
        line = set_call("c,~c;;0-1") + form_call()
        self.assertEqual(answers(line), answers(line))

    def test_an_answer_does_not_touch_the_next(self):
        given = answers(path_call([]))
        given.append(7)
        self.assertEqual(answers(path_call([])), [5, 4, 0, 3, 2, 1])

    def test_many_calls(self):
        self.assertEqual(ask(*(240 * [path_call([])])), 240 * [[4, 0, 3, 2, 1]])

    def test_rows_of_no_numbers(self):
        self.assertEqual(answers([0, 0, 5, 0, 2]), [1, -1, 5, 4, 0, 3, 2, 1, 3, 2, 0, 4])


class Deep(unittest.TestCase):
    def test_nesting_takes_no_calls_within_one_another(self):
        forty = "*".join(40 * ["a"])
        links = " ".join("%d-%d" % (leaf, leaf + 40) for leaf in range(40))
        lines = [
            set_call(100 * "(" + "a" + 100 * ")" + ",~a;;0-1") + form_call(),
            set_call(100 * "~" + "a,~a;;0-1"),
            set_call(48 * "(a*b-o" + "c" + 48 * ")" + ";;"),
            set_call(49 * "(" + "a" + 49 * "*b-oc)" + ";;"),
            set_call("%s,~(%s);;%s" % (forty, forty, links)) + form_call() + path_call(78 * [0]),
        ]
        limit = sys.getrecursionlimit()
        sys.setrecursionlimit(len(inspect.stack()) + 30)
        try:
            given = [answers(line)[:2] for line in lines]
        finally:
            sys.setrecursionlimit(limit)
        self.assertEqual(given, [[1, 2], [1, 2], [1, -6], [1, -6], [1, 80]])


if __name__ == "__main__":
    unittest.main()
