"""Promises 9 and 11: token and place."""

import random
import unittest

import second_reading
from building import random_net, random_structure
from helpers import (answer_to, ask, balanced, form_call, links_text, place_call, set_call, size_call, straight_links,
                     token_call)

GREAT = 10 ** 18
# Leaves: 0 a, 1 b, 2 c, 3 ~c, 4 ~a, 5 ~b.
PLACES = "(a|b)*c, ~c|~a, ~b ; ; 0-4 1-5 2-3"
# Leaves: 0 a, 1 ~a; of the cut 2 a; of its dual 3 ~a.
CUT = "a, ~a ; a ; 0-3 1-2"
# Leaves: 0 b, 1 ~a, 2 a, 3 ~b; of the cut 4 a, 5 b, 6 ~a; of its dual 7 ~a, 8 ~b, 9 a.
TWO_FOLD = "b|~a, a|~b ; (a*b)|~a ; 0-8 1-9 2-7 3-5 4-6"
FORTY = "*".join(40 * ["a"])
THIRTY = balanced("a", 30)


def zigzag():
    """Leaves: 0 a, 1 ~a; 2 to 60 of the cut; 61 to 119 of its dual. A token goes over the cut at each of its atoms."""
    formula = balanced("x", 59)
    for number in range(59):
        formula = formula.replace("x", "a" if number % 2 else "~a", 1)
    pairs = [(0, 2)] + [(leaf, leaf + 1) for leaf in range(3, 60, 2)]
    pairs += [(leaf, leaf + 1) for leaf in range(61, 118, 2)] + [(1, 119)]
    return "a, ~a ; %s ; %s" % (formula, links_text(pairs))


class Token(unittest.TestCase):
    def check(self, text, conclusion, place, expected):
        self.assertEqual(answer_to(text, token_call(conclusion, place)), expected, (text, conclusion, place))

    def test_at_the_beginning(self):
        self.assertEqual(ask(token_call(0, []), token_call(1, [])), [[1, 0, 0], [0, 0, 0]])

    def test_over_no_cut(self):
        self.check(PLACES, 0, [0, 0], [1, 1, 1, 0])
        self.check(PLACES, 0, [0, 1], [2, 0, 0])
        self.check(PLACES, 0, [1], [1, 1, 0, 0])
        self.check(PLACES, 1, [0], [0, 1, 1, 0])
        self.check(PLACES, 1, [1], [0, 2, 0, 0, 0])
        self.check(PLACES, 2, [], [0, 2, 0, 1, 0])

    def test_within_one_conclusion(self):
        self.check("a|~a ; ; 0-1", 0, [0], [0, 1, 1, 0])
        self.check("a|~a ; ; 0-1", 0, [1], [0, 1, 0, 0])

    def test_over_one_cut(self):
        self.check(CUT, 0, [], [1, 0, 1])
        self.check(CUT, 1, [], [0, 0, 1])

    def test_a_cut_that_it_does_not_meet(self):
        self.check("a, ~a ; a ; 0-1 2-3", 0, [], [1, 0, 0])

    def test_over_two_cuts(self):
        self.check("a, ~a ; a, ~a ; 0-3 1-5 2-4", 0, [], [1, 0, 2])
        self.check("a, ~a ; a, ~a ; 0-3 1-5 2-4", 1, [], [0, 0, 2])

    def test_twice_over_the_same_cut(self):
        self.check("a, ~a ; a*a ; 0-4 1-3 2-5", 0, [], [1, 0, 2])
        self.check("a, ~a ; a*a ; 0-4 1-3 2-5", 1, [], [0, 0, 2])

    def test_atoms_deep_in_a_cut(self):
        # From 0 to 8, over to 5, to 3.
        self.check(TWO_FOLD, 0, [0], [1, 1, 1, 1])
        # From 1 to 9, over to 6, to 4, over to 7, to 2.
        self.check(TWO_FOLD, 0, [1], [1, 1, 0, 2])
        self.check(TWO_FOLD, 1, [0], [0, 1, 1, 2])
        self.check(TWO_FOLD, 1, [1], [0, 1, 0, 1])

    def test_into_the_conclusion_where_it_came_from(self):
        # Leaves: 0 a, 1 ~a; of the cut 2 a, 3 ~a; of its dual 4 ~a, 5 a. From 0 to 4, over to 2, to 3, over to 5, to 1.
        self.check("a|~a ; a|~a ; 0-4 1-5 2-3", 0, [0], [0, 1, 1, 2])

    def test_the_greatest_structures(self):
        text = "%s,~(%s);;%s" % (FORTY, FORTY, straight_links(40))
        self.check(text, 0, 39 * [1], [1, 39] + 39 * [1] + [0])
        self.check(text, 1, 38 * [1] + [0], [0, 39] + 38 * [1] + [0, 0])
        pairs = [(leaf, leaf + 90) for leaf in range(30)] + [(leaf + 30, leaf + 60) for leaf in range(30)]
        text = "%s,~(%s);%s;%s" % (THIRTY, THIRTY, THIRTY, links_text(pairs))
        for leaf in (0, 7, 29):
            place = answer_to(text, place_call(leaf))[1:]
            self.check(text, 0, place[1:], [1] + place + [1])
            self.check(text, 1, place[1:], [0] + place + [1])

    def test_often_over_a_cut(self):
        self.check(zigzag(), 0, [], [1, 0, 59])
        self.check(zigzag(), 1, [], [0, 0, 59])

    def test_often_over_many_cuts(self):
        # Of the cut k: leaf 2 + 2k, which is a, and 3 + 2k.
        pairs = [(0, 3)] + [(2 * cut, 2 * cut + 3) for cut in range(1, 20)] + [(1, 40)]
        self.check("a, ~a ; %s ; %s" % (", ".join(20 * ["a"]), links_text(pairs)), 0, [], [1, 0, 20])

    def test_no_such_conclusion(self):
        for number in (-1, 3, 4, -GREAT, GREAT):
            self.check(PLACES, number, [], [-4])
        # The formulas of a cut are no conclusions.
        for number in (2, 3, -1):
            self.check(CUT, number, [], [-4])
        self.check(";;", 0, [], [-4])
        self.check(" ; a ; 0-1", 0, [], [-4])

    def test_no_place(self):
        for place in ([2], [-1], [0, 2], [0, -1], [2, 0], [GREAT], [-GREAT], [0, GREAT]):
            self.check(PLACES, 0, place, [-4])

    def test_a_place_beyond_an_atom(self):
        for place in ([0, 0, 0], [0, 1, 1], [1, 0], [1, 1], [1, 2], 200 * [0], 200 * [1]):
            self.check(PLACES, 0, place, [-4])
        for place in ([0], [1], 200 * [0]):
            self.check(PLACES, 2, place, [-4])
        self.assertEqual(ask(token_call(0, [0])), [[-4]])

    def test_a_place_of_no_atom(self):
        for place in ([], [0]):
            self.check(PLACES, 0, place, [-4])
        self.check(PLACES, 1, [], [-4])
        self.check("%s,~(%s);;%s" % (FORTY, FORTY, straight_links(40)), 0, 38 * [1], [-4])

    def test_each_token_comes_back(self):
        source = random.Random(21)
        over_cuts = {}
        for make in 150 * [random_net, random_structure]:
            text = make(source)
            structure = second_reading.read_structure(text)
            if isinstance(structure, int):
                continue
            for point in structure.points:
                if structure.is_place_of_atom(*point):
                    out = answer_to(text, token_call(*point))
                    self.check(text, out[0], out[2:-1], [point[0], len(point[1]), *point[1], out[-1]])
                    over_cuts[out[-1]] = over_cuts.get(out[-1], 0) + 1
        self.assertGreater(min(over_cuts[count] for count in range(4)), 10)


class Place(unittest.TestCase):
    def check(self, text, expected):
        count = len(expected)
        given = ask(set_call(text), *[place_call(leaf) for leaf in range(count + 1)])
        self.assertEqual(given, [[count]] + expected + [[-4]], text)

    def test_at_the_beginning(self):
        self.assertEqual(ask(place_call(0), place_call(1), place_call(2)), [[0, 0], [1, 0], [-4]])

    def test_in_conclusions(self):
        self.check(PLACES, [[0, 2, 0, 0], [0, 2, 0, 1], [0, 1, 1], [1, 1, 0], [1, 1, 1], [2, 0]])

    def test_in_cuts_and_their_duals(self):
        self.check(CUT, [[0, 0], [1, 0], [2, 0], [3, 0]])
        self.check(TWO_FOLD, [[0, 1, 0], [0, 1, 1], [1, 1, 0], [1, 1, 1], [2, 2, 0, 0], [2, 2, 0, 1], [2, 1, 1],
                              [3, 2, 0, 0], [3, 2, 0, 1], [3, 1, 1]])
        self.check("a, ~a ; a|a, ~a ; 0-4 1-2 3-5 6-7",
                   [[0, 0], [1, 0], [2, 1, 0], [2, 1, 1], [3, 1, 0], [3, 1, 1], [4, 0], [5, 0]])

    def test_without_conclusions(self):
        self.check(" ; a ; 0-1", [[0, 0], [1, 0]])

    def test_the_empty_structure(self):
        self.check(";;", [])

    def test_the_greatest_structures(self):
        text = "%s,~(%s);;%s" % (FORTY, FORTY, straight_links(40))
        for leaf in range(39):
            self.assertEqual(answer_to(text, place_call(leaf)), [0, leaf + 1] + leaf * [1] + [0])
        self.assertEqual(answer_to(text, place_call(39)), [0, 39] + 39 * [1])
        self.assertEqual(answer_to(text, place_call(79)), [1, 39] + 39 * [1])
        left = 39 * "(" + "a" + 39 * "*a)"
        text = " ; %s ; %s" % (left, straight_links(40))
        self.assertEqual(answer_to(text, place_call(0)), [0, 39] + 39 * [0])
        self.assertEqual(answer_to(text, place_call(41)), [1, 39] + 38 * [0] + [1])
        sixty = balanced("a", 60)
        text = "%s,~(%s);;%s" % (sixty, sixty, straight_links(60))
        self.assertEqual(answer_to(text, place_call(119)), [1, 6, 1, 1, 1, 1, 1, 1])
        self.assertEqual(answer_to(text, place_call(120)), [-4])

    def test_no_such_leaf(self):
        for leaf in (-1, 6, 7, -6, -GREAT, GREAT):
            self.assertEqual(answer_to(PLACES, place_call(leaf)), [-4], leaf)
        for leaf in (-1, 4):
            self.assertEqual(answer_to(CUT, place_call(leaf)), [-4], leaf)

    def test_tokens_go_in_at_the_places_of_leaves(self):
        # Over no cut a token goes to the partner: the links are 0-4 1-5 2-3.
        for leaf, partner in ((0, 4), (1, 5), (2, 3), (3, 2), (4, 0), (5, 1)):
            spot, out = (answer_to(PLACES, place_call(number)) for number in (leaf, partner))
            self.assertEqual(answer_to(PLACES, token_call(spot[0], spot[2:])), out + [0])


class Both(unittest.TestCase):
    def test_answers_and_refusals_leave_the_structure(self):
        for text in (PLACES, CUT, ";;"):
            before = ask(set_call(text), form_call(), size_call())[1:]
            given = ask(set_call(text), token_call(1, [0]), token_call(9, []), token_call(0, []), place_call(1),
                        place_call(-1), form_call(), size_call())
            self.assertEqual(given[6:], before)


if __name__ == "__main__":
    unittest.main()
