"""Promises 4, 5 and 6: next, trip and path."""

import unittest

from helpers import answer_to, ask, form_call, next_call, path_call, set_call, size_call, trip_call

PARS = "a|b, ~a|~b ; ; 0-2 1-3"
# Points: 0 tensor, 1 a, 2 b, 3 par, 4 ~a, 5 ~b.
NET = "a*b, ~a|~b ; ; 0-2 1-3"
# Points: 0 a, 1 ~a; of the cut 2 par, 3 b, 4 ~b; of its dual 5 tensor, 6 ~b, 7 b.
CUT = "a, ~a ; b|~b ; 0-1 2-4 3-5"
GREAT = 10 ** 18


def table(text, switching, count):
    """The passage behind each passage."""
    calls = [set_call(text)] + [next_call(passage, switching) for passage in range(count)]
    return [answer[0] for answer in ask(*calls)[1:]]


class Next(unittest.TestCase):
    def test_at_the_beginning(self):
        self.assertEqual(ask(*[next_call(passage, []) for passage in range(4)]), [[3], [0], [1], [2]])

    def test_up_through_an_atom(self):
        self.assertEqual(answer_to(NET, next_call(2, [0, 0])), [9])
        self.assertEqual(answer_to(NET, next_call(10, [1, 1])), [5])

    def test_up_through_a_junction(self):
        self.assertEqual(answer_to(NET, next_call(0, [0, 1])), [2])
        self.assertEqual(answer_to(NET, next_call(0, [1, 0])), [4])
        self.assertEqual(answer_to(NET, next_call(6, [1, 0])), [8])
        self.assertEqual(answer_to(NET, next_call(6, [0, 1])), [10])

    def test_down_through_a_conclusion(self):
        self.assertEqual(answer_to(NET, next_call(1, [0, 0])), [0])
        self.assertEqual(answer_to(NET, next_call(7, [0, 0])), [6])

    def test_down_through_a_cut(self):
        self.assertEqual(answer_to(CUT, next_call(5, [0, 0])), [10])
        self.assertEqual(answer_to(CUT, next_call(11, [0, 0])), [4])

    def test_down_to_a_tensor(self):
        self.assertEqual(answer_to(NET, next_call(3, [0, 1])), [4])
        self.assertEqual(answer_to(NET, next_call(5, [0, 1])), [1])
        self.assertEqual(answer_to(NET, next_call(3, [1, 0])), [1])
        self.assertEqual(answer_to(NET, next_call(5, [1, 0])), [2])

    def test_down_to_a_par(self):
        self.assertEqual(answer_to(NET, next_call(9, [1, 0])), [7])
        self.assertEqual(answer_to(NET, next_call(11, [1, 0])), [10])
        self.assertEqual(answer_to(NET, next_call(9, [0, 1])), [8])
        self.assertEqual(answer_to(NET, next_call(11, [0, 1])), [7])

    def test_a_second_formula_behind_a_deep_first_one(self):
        # Points: 0 tensor, 1 par, 2 a, 3 ~a, 4 par, 5 b, 6 ~b.
        text = "(a|~a)*(b|~b) ; ; 0-1 2-3"
        self.assertEqual(table(text, [1, 0, 1], 14), [8, 0, 4, 1, 7, 3, 5, 6, 12, 2, 13, 10, 11, 9])

    def test_no_such_passage(self):
        for passage in (-1, 12, 13, -GREAT, GREAT):
            self.assertEqual(answer_to(NET, next_call(passage, [0, 0])), [-4], passage)
        self.assertEqual(answer_to(";;", next_call(0, [])), [-4])

    def test_no_switching(self):
        for switching in ([], [0], [0, 0, 0], [0, 2], [-1, 0], [GREAT, 0], [0, -GREAT], 200 * [0]):
            self.assertEqual(answer_to(NET, next_call(0, switching)), [-1], switching)
        self.assertEqual(ask(next_call(0, [0])), [[-1]])

    def test_the_passage_is_looked_at_first(self):
        self.assertEqual(answer_to(NET, next_call(12, [2])), [-4])
        self.assertEqual(answer_to(";;", next_call(0, [0])), [-4])


class Trip(unittest.TestCase):
    def test_the_example(self):
        self.assertEqual(ask(*[trip_call(passage, []) for passage in range(4)]), 4 * [[4]])
        self.assertEqual(answer_to(PARS, trip_call(0, [0, 0])), [8])

    def test_passages_that_the_first_trip_does_not_meet(self):
        self.assertEqual([answer_to(PARS, trip_call(passage, [0, 0]))[0] for passage in range(12)],
                         [8, 8, 8, 8, 4, 4, 8, 8, 8, 8, 4, 4])

    def test_a_net(self):
        for switching in ([0, 0], [0, 1], [1, 0], [1, 1]):
            for passage in range(12):
                self.assertEqual(answer_to(NET, trip_call(passage, switching)), [12])

    def test_over_a_cut(self):
        self.assertEqual(answer_to(CUT, trip_call(0, [0, 0])), [4])
        # The trips are 4 6 13 14 9 8 15 11 and 5 10 12 7.
        self.assertEqual(answer_to(CUT, trip_call(4, [0, 0])), [8])
        self.assertEqual(answer_to(CUT, trip_call(5, [0, 0])), [4])

    def test_no_such_passage(self):
        for passage in (-1, 12, -GREAT, GREAT):
            self.assertEqual(answer_to(PARS, trip_call(passage, [0, 0])), [-4], passage)
        self.assertEqual(answer_to(";;", trip_call(0, [])), [-4])

    def test_no_switching(self):
        for switching in ([], [0], [0, 0, 0], [0, 2], [-1, 0], [GREAT, 0], 200 * [1]):
            self.assertEqual(answer_to(PARS, trip_call(0, switching)), [-1], switching)

    def test_the_passage_is_looked_at_first(self):
        self.assertEqual(answer_to(PARS, trip_call(-1, [])), [-4])
        self.assertEqual(answer_to(";;", trip_call(0, [0])), [-4])


class Path(unittest.TestCase):
    def test_the_example(self):
        self.assertEqual(ask(path_call([])), [[4, 0, 3, 2, 1]])
        self.assertEqual(answer_to(PARS, path_call([0, 0])), [8, 0, 2, 9, 7, 6, 8, 3, 1])

    def test_a_net(self):
        self.assertEqual(answer_to(NET, path_call([0, 0])), [12, 0, 2, 9, 7, 6, 8, 3, 4, 11, 10, 5, 1])
        self.assertEqual(answer_to(NET, path_call([1, 1])), [12, 0, 4, 11, 7, 6, 10, 5, 2, 9, 8, 3, 1])

    def test_begins_in_a_cut_if_there_are_no_conclusions(self):
        self.assertEqual(answer_to(" ; a ; 0-1", path_call([])), [2, 0, 3])

    def test_no_passages(self):
        self.assertEqual(answer_to(";;", path_call([])), [-4])
        self.assertEqual(answer_to(";;", path_call([0])), [-4])

    def test_no_switching(self):
        for switching in ([], [0], [0, 0, 0], [2, 0], [0, -1], [GREAT, 0], 200 * [0]):
            self.assertEqual(answer_to(PARS, path_call(switching)), [-1], switching)

    def test_refused_trips_leave_the_structure(self):
        given = ask(set_call(PARS), next_call(99, []), trip_call(0, []), path_call([2, 2]), form_call(), size_call())
        self.assertEqual(given[1:4], [[-4], [-1], [-1]])
        self.assertEqual(bytes(given[4][1:]), b"a|b, ~a|~b ;  ; 0-2 1-3")
        self.assertEqual(given[5], [6, 2, 12])


if __name__ == "__main__":
    unittest.main()
