"""The interface: how calls are handed in and answers given back."""

import inspect
import sys
import unittest

from helpers import (ask, bad_call, balanced, check_call, draw_call, form_call, next_call, path_call, place_call,
                     play_call, set_call, size_call, straight_links, token_call, trip_call)
from proofpaths.structure import answers

PARS = "a|b, ~a|~b ; ; 0-2 1-3"
# The conclusion 1 is the dual of a*b.
OTHER = "a, ~a|~b, b ; ; 0-1 2-3"
GREAT = 10 ** 18


def all_calls():
    """Each of the twelve calls, with its answer when the first structure is held."""
    return [
        (set_call("a, ~a ; ; 0-1"), [2]),
        (form_call(), [14] + list(b"a, ~a ;  ; 0-1")),
        (size_call(), [2, 0, 4]),
        (next_call(0, []), [3]),
        (trip_call(0, []), [4]),
        (path_call([]), [4, 0, 3, 2, 1]),
        (check_call(), [1]),
        (bad_call(), [-4]),
        (token_call(0, []), [1, 0, 0]),
        (play_call(1, 0, 0, "a,~a;;0-1", []), [1, 1, 0, 1]),
        (place_call(1), [1, 0]),
        (draw_call(), [1]),
    ]


class Lines(unittest.TestCase):
    def test_answers_one_behind_another_with_their_counts(self):
        line = size_call() + set_call("a|b, ~a|~b ; ; 0-2 1-3") + size_call() + next_call(0, [1, 0])
        line += trip_call(0, [0, 0]) + path_call([0, 0]) + path_call([0]) + set_call("x") + form_call()
        form = list(b"a|b, ~a|~b ;  ; 0-2 1-3")
        expected = [3, 2, 0, 4, 1, 4, 3, 6, 2, 12, 1, 4, 1, 8, 9, 8, 0, 2, 9, 7, 6, 8, 3, 1, 1, -1, 1, -1]
        self.assertEqual(answers(line), expected + [1 + len(form), len(form)] + form)

    def test_the_rows_of_all_calls(self):
        text = list(b"a*b, ~a|~b ; ; 0-2 1-3")
        other = list(OTHER.encode())
        line = [0, len(text)] + text
        line += [2, 3, 0, 2, 1, 0, 4, 0, 2, 0, 0, 5, 2, 0, 0, 6, 7, 8, 0, 1, 0]
        line += [9, 0, 1, 1, len(other)] + other + [1, 0]
        line += [10, 3, 11]
        expected = [1, 4, 3, 6, 2, 12, 1, 4, 1, 12, 13, 12, 0, 2, 9, 7, 6, 8, 3, 4, 11, 10, 5, 1]
        expected += [1, 1, 1, -4, 4, 1, 1, 0, 0, 4, 1, 0, 0, 1, 3, 1, 1, 1, 1, 1]
        self.assertEqual(answers(line), expected)

    def test_each_call_sees_what_the_ones_before_left(self):
        net = "a*b, ~a|~b ; ; 0-2 1-3"
        given = ask(check_call(), set_call(PARS), check_call(), bad_call(), set_call("?"), draw_call(),
                    token_call(0, [1]), set_call(net), check_call(), bad_call(), draw_call(), place_call(3),
                    play_call(0, 1, 1, OTHER, [1]), place_call(3), play_call(0, 0, 1, OTHER, [1]), form_call(),
                    set_call(";;"), check_call(), bad_call(), token_call(0, []), place_call(0), draw_call(),
                    play_call(0, 0, 0, net, []), path_call([]), next_call(0, []), trip_call(0, []), size_call())
        form = list(b"a*b, ~a|~b ;  ; 0-2 1-3")
        self.assertEqual(given, [[1], [4], [0], [2, 0, 0, 8], [-1], [0], [1, 1, 1, 0], [4], [1], [-4], [1], [1, 1, 1],
                                 [1, 2, 0, 1], [1, 1, 1], [-8], [len(form)] + form, [0], [0], [-4], [-4], [-4], [0],
                                 [-4], [-4], [-4], [-4], [0, 0, 0]])

    def test_whole_numbers_in_a_list(self):
        line = [number for call, answer in all_calls() for number in call]
        line += set_call(PARS) + check_call() + bad_call() + draw_call() + next_call(9, [])
        given = answers(line)
        self.assertIs(type(given), list)
        self.assertEqual({type(number) for number in given}, {int})

    def test_what_is_handed_in_is_not_changed(self):
        line = [number for call, answer in all_calls() for number in call]
        line += set_call(PARS) + path_call([0, 1]) + set_call("?") + trip_call(3, [1, 1]) + bad_call()
        line += token_call(0, [1]) + play_call(0, 0, 1, "~a*~b, a|b;;0-2 1-3", [0]) + token_call(1, [7])
        kept = list(line)
        answers(line)
        self.assertEqual(line, kept)

    def test_nothing_is_kept_of_any_call(self):
        other = set_call("b*b, ~b|~b ; ; 0-2 1-3") + check_call() + bad_call() + draw_call() + place_call(3)
        other += play_call(0, 0, 1, "~b|~b, b*b;;0-2 1-3", [0]) + token_call(0, [1])
        expected = answers(other)
        for call, answer in all_calls():
            self.assertEqual(answers(call), [len(answer)] + answer)
            self.assertEqual(answers(other), expected)

    def test_nothing_is_kept(self):
        first = ask(form_call(), path_call([]))
        ask(set_call("b, ~b ; b ; 0-3 1-2"))
        self.assertEqual(ask(form_call(), path_call([])), first)
        line = set_call("c,~c;;0-1") + form_call()
        self.assertEqual(answers(line), answers(line))

    def test_an_answer_does_not_touch_the_next(self):
        given = answers(path_call([]))
        given.append(7)
        self.assertEqual(answers(path_call([])), [5, 4, 0, 3, 2, 1])

    def test_many_calls(self):
        for call, answer in all_calls():
            self.assertEqual(ask(*(240 * [call])), 240 * [answer])
        calls, expected = zip(*(20 * all_calls()))
        self.assertEqual(ask(*calls), list(expected))

    def test_many_calls_on_great_structures(self):
        names = ["n%d" % number for number in range(9)]
        text = "%s, %s ; ; %s" % ("*".join(names), ", ".join("~" + name for name in names), straight_links(9))
        self.assertEqual(ask(set_call(text), *(239 * [check_call()])), [[18]] + 239 * [[1]])
        sixty = balanced("a", 60)
        text = "%s,~(%s);;%s" % (sixty, sixty, straight_links(60))
        self.assertEqual(ask(set_call(text), *(239 * [draw_call()])), [[120]] + 239 * [[1]])
        self.assertEqual(ask(set_call(text), *[place_call(leaf + 120) for leaf in range(239)])[1:], 239 * [[-4]])

    def test_the_longest_rows(self):
        blanks = (3989 * " ") + "a,~a;;0-1"
        for number in (-GREAT, GREAT):
            self.assertEqual(
                ask(next_call(number, 200 * [number]), trip_call(number, 200 * [number]), path_call(200 * [number]),
                    token_call(number, 200 * [number]), play_call(number, number, number, "a,~a;;0-1", 200 * [number]),
                    play_call(0, 1, 1, 4000 * [255], []), play_call(0, 1, 1, blanks, []), place_call(number),
                    play_call(0, 1, 1, "a,~a;;" + 3991 * " " + "0-1", []), size_call()),
                [[-4], [-4], [-1], [-4], [-4], [-1], [-1], [-4], [1, 0, 0, 1], [2, 0, 4]])

    def test_rows_of_no_numbers(self):
        self.assertEqual(answers([0, 0, 5, 0, 2]), [1, -1, 5, 4, 0, 3, 2, 1, 3, 2, 0, 4])


class Deep(unittest.TestCase):
    def test_nesting_takes_no_calls_within_one_another(self):
        forty = "*".join(40 * ["a"])
        links = straight_links(40)
        # A token goes over this cut at each of its atoms.
        zigzag = "*".join(19 * ["~a*a"] + ["~a"])
        zigzag_links = " ".join(["0-2", "1-79"] + ["%d-%d" % (leaf, leaf + 1) for leaf in range(3, 78, 2)])
        lines = [
            set_call(100 * "(" + "a" + 100 * ")" + ",~a;;0-1") + form_call(),
            set_call(100 * "~" + "a,~a;;0-1"),
            set_call(48 * "(a*b-o" + "c" + 48 * ")" + ";;"),
            set_call(49 * "(" + "a" + 49 * "*b-oc)" + ";;"),
            set_call("%s,~(%s);;%s" % (forty, forty, links)) + form_call() + path_call(78 * [0]) + draw_call(),
            set_call("%s,~(%s);;%s" % (forty, forty, links)) + token_call(0, 39 * [1]) + place_call(79)
            + play_call(0, 1, 1, "%s,~(%s);;%s" % (forty, forty, links), 39 * [1]),
            set_call("a,~a;%s;%s" % (zigzag, zigzag_links)) + token_call(0, []) + draw_call(),
            set_call("*".join(9 * ["a"]) + 9 * ",~a" + ";;" + straight_links(9)) + check_call() + bad_call(),
        ]
        limit = sys.getrecursionlimit()
        sys.setrecursionlimit(len(inspect.stack()) + 30)
        try:
            given = [answers(line)[:2] for line in lines]
        finally:
            sys.setrecursionlimit(limit)
        self.assertEqual(given, [[1, 2], [1, 2], [1, -6], [1, -6], [1, 80], [1, 80], [1, 80], [1, 18]])


if __name__ == "__main__":
    unittest.main()
