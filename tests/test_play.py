"""Promise 10: play."""

import random
import unittest

import second_reading
from building import joined, random_net, random_opponent, random_structure
from helpers import (answer_to, ask, balanced, form_call, links_text, place_call, play_call, set_call, size_call,
                     straight_links, token_call)

GREAT = 10 ** 18
AXIOM = "a, ~a ; ; 0-1"
# A token put in at a goes to the conclusion 1, comes back from it at its second atom, and out at ~a.
RETURN = "a, ~a|a, ~a ; ; 0-1 2-3"
# Leaves: 0 a, 1 ~a, 2 b, 3 a, 4 ~a, 5 ~b. The dual of the conclusion 1 is (a|~b)|~a.
HELD = "a, (~a*b)*a, ~a*~b ; ; 0-1 2-5 3-4"
# Leaves: 0 b, 1 a, 2 ~b, 3 ~a, of the cut 4 b, of its dual 5 ~b.
OTHER = "b, (a|~b)|~a ; b ; 0-5 1-3 2-4"
SIXTY_ONE = balanced("a", 61)


def zigzag():
    """Two structures between which a token goes at each of the 59 atoms of the conclusion where they meet."""
    shape = balanced("x", 59)
    held, other = shape, shape.replace("*", "|")
    for number in range(59):
        held = held.replace("x", "a" if number % 2 else "~a", 1)
        other = other.replace("x", "~a" if number % 2 else "a", 1)
    held_pairs = [(leaf, leaf + 1) for leaf in range(0, 60, 2)]
    other_pairs = [(leaf, leaf + 1) for leaf in range(0, 58, 2)] + [(58, 59)]
    return "a, %s ; ; %s" % (held, links_text(held_pairs)), "%s, ~a ; ; %s" % (other, links_text(other_pairs))


class Play(unittest.TestCase):
    def check(self, held, call, expected):
        self.assertEqual(answer_to(held, call), expected, (held, call))

    def test_at_the_beginning(self):
        self.assertEqual(ask(play_call(1, 0, 0, AXIOM, [])), [[1, 1, 0, 1]])
        self.assertEqual(ask(play_call(0, 1, 1, AXIOM, [])), [[1, 0, 0, 1]])

    def test_it_stays_in_the_held_structure(self):
        self.check("a, ~a, b, ~b ; ; 0-1 2-3", play_call(1, 0, 2, AXIOM, []), [0, 3, 0, 0])
        self.check("a, b|~b, ~a ; ; 0-3 1-2", play_call(0, 0, 1, "~a, a ; ; 0-1", [1]), [0, 1, 1, 0, 0])

    def test_there_and_back(self):
        self.check(RETURN, play_call(1, 0, 0, "a*~a ; ; 0-1", []), [0, 2, 0, 2])
        self.check(RETURN, play_call(1, 0, 2, "a*~a ; ; 0-1", []), [0, 0, 0, 2])

    def test_out_of_the_other_one(self):
        text = "a*~a, a, ~a ; ; 0-3 1-2"
        self.check(RETURN, play_call(1, 0, 0, text, []), [1, 2, 0, 1])
        self.check(RETURN, play_call(1, 0, 2, text, []), [1, 1, 0, 1])

    def test_places_and_cuts(self):
        # Here from 0 to 1; there from 1 to 3; here from 3 to 4.
        self.check(HELD, play_call(1, 1, 0, OTHER, []), [0, 2, 1, 0, 2])
        self.check(HELD, play_call(1, 1, 2, OTHER, [0]), [0, 0, 0, 2])
        # Here from 5 to 2; there from 2 to 4, over the cut to 5, to 0.
        self.check(HELD, play_call(1, 1, 2, OTHER, [1]), [1, 0, 0, 1])

    def test_the_place_where_it_comes_out(self):
        # Leaves of the other one: 0 b, 1 ~b, 2 ~a, 3 a.
        self.check(AXIOM, play_call(1, 1, 0, "b|(~b*~a), a ; ; 0-1 2-3", []), [1, 0, 2, 1, 1, 1])

    def test_three_crossings(self):
        held = "a, ~a|(a|~a) ; ; 0-1 2-3"
        self.check(held, play_call(1, 0, 0, "a*(~a*a), ~a ; ; 0-1 2-3", []), [1, 1, 0, 3])
        self.check(held, play_call(1, 0, 0, "a*(~a*a), ~a ; ; 0-3 1-2", []), [1, 1, 0, 1])

    def test_several_conclusions_meet_their_like_only_at_i_and_j(self):
        # The other one's conclusion 1 is ~a too, but the token comes out there.
        held = "~a, a, ~a, a ; ; 0-1 2-3"
        self.check(held, play_call(2, 3, 3, "a, ~a, ~a, a ; ; 0-2 1-3", []), [1, 1, 0, 1])
        self.check(held, play_call(0, 0, 1, "a, ~a, ~a, a ; ; 0-2 1-3", []), [1, 2, 0, 1])
        self.check(held, play_call(0, 0, 3, "a, ~a, ~a, a ; ; 0-2 1-3", []), [0, 2, 0, 0])

    def test_59_crossings(self):
        held, other = zigzag()
        self.check(held, play_call(1, 0, 0, other, []), [1, 1, 0, 59])
        self.check(other, play_call(0, 1, 1, held, []), [1, 0, 0, 59])

    def test_the_greatest_structures(self):
        sixty = balanced("a", 60)
        text = "%s,~(%s);;%s" % (sixty, sixty, straight_links(60))
        for leaf in (0, 31, 59):
            place = answer_to(text, place_call(leaf))[1:]
            self.check(text, play_call(1, 0, 0, text, place[1:]), [1, 1] + place + [1])
        forty = "*".join(40 * ["a"])
        text = "%s,~(%s);;%s" % (forty, forty, straight_links(40))
        self.check(text, play_call(0, 1, 1, text, 39 * [1]), [1, 0, 39] + 39 * [1] + [1])

    def test_what_is_held_stays(self):
        calls = [form_call(), size_call(), token_call(0, [])]
        before = ask(set_call(HELD), *calls)[1:]
        for call in (play_call(1, 1, 0, OTHER, []), play_call(0, 0, 0, OTHER, []), play_call(1, 0, 0, AXIOM, []),
                     play_call(1, 1, 0, "x", [])):
            self.assertEqual(ask(set_call(HELD), call, *calls)[2:], before)

    def test_each_play_is_a_new_one(self):
        calls = [play_call(1, 1, 0, OTHER, []), play_call(1, 1, 2, OTHER, [1])]
        self.assertEqual(ask(set_call(HELD), *calls, *calls)[1:], 2 * [[0, 2, 1, 0, 2], [1, 0, 0, 1]])


class Refusals(unittest.TestCase):
    def check(self, held, call, expected):
        self.assertEqual(answer_to(held, call), [expected], (held, call))

    def test_the_text(self):
        for text in ("", "x", "a, ~a", "a, ~a ; ; 1-0", "A;;", "a,~a;;0-1;", bytes([0, 255])):
            self.check(HELD, play_call(1, 0, 0, text, []), -1)
        self.check(HELD, play_call(1, 0, 0, "%s ; ; " % SIXTY_ONE, []), -6)
        self.check(HELD, play_call(1, 0, 0, "%s ; ; " % "*".join(41 * ["a"]), []), -6)
        self.check(HELD, play_call(1, 0, 0, ",".join(3 * [balanced("a", 41)]) + ";;", []), -5)
        for text in ("a, ~a ; ; ", "a, a ; ; 0-1", "a, ~a ; ; 0-2"):
            self.check(HELD, play_call(1, 0, 0, text, []), -3)

    def test_the_order_within_the_text(self):
        self.check(HELD, play_call(1, 0, 0, "%s ; ; x" % SIXTY_ONE, []), -1)
        self.check(HELD, play_call(1, 0, 0, "%s ; %s ; " % (balanced("a", 60), SIXTY_ONE), []), -6)
        self.check(HELD, play_call(1, 0, 0, "%s, %s, a ; ; 0-1" % (2 * (balanced("a", 60),)), []), -5)

    def test_no_conclusion_i(self):
        for number in (-1, 3, 4, -2, -GREAT, GREAT):
            self.check(HELD, play_call(number, 1, 0, OTHER, []), -4)
        # The other one has a conclusion 2; and a cut's formulas are no conclusions.
        self.check(AXIOM, play_call(2, 0, 0, "a, ~a, ~a, a ; ; 0-1 2-3", []), -4)
        self.check("a, ~a ; a ; 0-3 1-2", play_call(3, 0, 0, AXIOM, []), -4)

    def test_no_conclusion_j(self):
        for number in (-1, 2, 3, -GREAT, GREAT):
            self.check(HELD, play_call(1, number, 0, OTHER, []), -4)
        self.check("a, ~a, ~a, a ; ; 0-1 2-3", play_call(1, 3, 0, AXIOM, []), -4)
        self.check(AXIOM, play_call(1, 2, 0, "a, ~a ; a ; 0-3 1-2", []), -4)
        self.check(AXIOM, play_call(1, 0, 0, ";;", []), -4)
        self.check(AXIOM, play_call(1, 0, 0, " ; a ; 0-1", []), -4)

    def test_no_conclusion_c(self):
        for number in (-1, 3, -3, -GREAT, GREAT):
            self.check(HELD, play_call(1, 1, number, OTHER, []), -4)
        self.check(AXIOM, play_call(1, 0, 2, "a, ~a, ~a, a ; ; 0-1 2-3", []), -4)
        self.check("a, ~a ; a ; 0-3 1-2", play_call(1, 0, 2, AXIOM, []), -4)

    def test_c_is_i(self):
        self.check(AXIOM, play_call(1, 0, 1, AXIOM, []), -4)
        self.check(AXIOM, play_call(0, 1, 0, AXIOM, []), -4)
        self.check(HELD, play_call(1, 1, 1, OTHER, [1]), -4)

    def test_no_place_of_an_atom_in_c(self):
        for place in ([], [2], [-1], [0, 0], [1, 0], [GREAT], 200 * [0]):
            self.check(HELD, play_call(1, 1, 2, OTHER, place), -4)
        for place in ([0], [1], [2], [-GREAT]):
            self.check(HELD, play_call(1, 1, 0, OTHER, place), -4)
        # A place in the conclusion i is not enough.
        self.check(HELD, play_call(1, 1, 2, OTHER, [0, 1]), -4)

    def test_the_held_structure_is_empty(self):
        self.check(";;", play_call(0, 0, 0, AXIOM, []), -4)

    def test_not_the_dual(self):
        self.check(AXIOM, play_call(1, 1, 0, AXIOM, []), -8)
        self.check(AXIOM, play_call(0, 0, 1, AXIOM, []), -8)
        self.check(AXIOM, play_call(1, 0, 0, "b, ~b ; ; 0-1", []), -8)
        self.check(AXIOM, play_call(1, 0, 0, "a0, ~a0 ; ; 0-1", []), -8)
        self.check(RETURN, play_call(1, 0, 0, "a|~a ; ; 0-1", []), -8)
        self.check(RETURN, play_call(1, 0, 0, "~a*a ; ; 0-1", []), -8)
        self.check(RETURN, play_call(1, 0, 0, AXIOM, []), -8)
        self.check(HELD, play_call(1, 1, 0, "b, a|(~b|~a) ; ; 0-2 1-3", []), -8)
        self.check(HELD, play_call(1, 0, 0, OTHER, []), -8)

    def test_it_need_not_be_met_to_be_refused(self):
        self.check("a, ~a, b, ~b ; ; 0-1 2-3", play_call(1, 1, 2, AXIOM, []), -8)

    def test_the_text_is_looked_at_before_the_numbers(self):
        wrong = [(9, 0, 0, []), (1, 9, 0, []), (1, 0, 9, []), (1, 0, 1, []), (1, 0, 0, [7]), (0, 0, 1, [])]
        for i, j, c, place in wrong:
            for text, number in (("x", -1), (SIXTY_ONE + ";;", -6), (",".join(3 * [balanced("a", 41)]) + ";;", -5),
                                 ("a,~a;;", -3)):
                self.check(AXIOM, play_call(i, j, c, text, place), number)

    def test_the_numbers_are_looked_at_before_the_dual(self):
        # The conclusions 1 and 1 are no duals.
        self.check(AXIOM, play_call(1, 1, 1, AXIOM, []), -4)
        self.check(AXIOM, play_call(1, 1, 2, AXIOM, []), -4)
        self.check(AXIOM, play_call(1, 1, 0, AXIOM, [0]), -4)


class Joined(unittest.TestCase):
    """A play is a token's way through both structures made one by a cut."""

    def test_plays_and_tokens(self):
        source = random.Random(31)
        met = {}
        for make in 400 * [random_net, random_structure]:
            held_text = make(source)
            held = second_reading.read_structure(held_text)
            if isinstance(held, int) or len(held.conclusions) < 2:
                continue
            i = source.randrange(len(held.conclusions))
            other_text, j = random_opponent(source, held.conclusions[i])
            self.compare(held_text, held, i, other_text, j, met)
        self.assertGreater(min(met[0, 0], met[0, 2], met[1, 1], met[1, 3]), 20)
        self.assertGreater(met[0, 4], 0)

    def compare(self, held_text, held, i, other_text, j, met):
        other = second_reading.read_structure(other_text)
        both = joined(held, other, i, j)
        numbers = [(0, number) for number in range(len(held.conclusions)) if number != i]
        numbers += [(1, number) for number in range(len(other.conclusions)) if number != j]
        for conclusion, place in held.partner:
            if held.is_conclusion(conclusion) and conclusion != i:
                given = answer_to(held_text, play_call(i, j, conclusion, other_text, place))
                token = answer_to(both, token_call(numbers.index((0, conclusion)), place))
                self.assertEqual(given[:-1], [*numbers[token[0]]] + token[1:-1], (held_text, other_text))
                crossings = [pair for pair in self.cuts(both, numbers.index((0, conclusion)), place)
                             if max(pair) == self.last_formula(both)]
                self.assertEqual(given[-1], len(crossings), (held_text, other_text))
                met[given[0], given[-1]] = met.get((given[0], given[-1]), 0) + 1

    def cuts(self, text, conclusion, place):
        return second_reading.read_structure(text).send((conclusion, tuple(place)))[1]

    def last_formula(self, text):
        return len(second_reading.read_structure(text).formulas) - 1


if __name__ == "__main__":
    unittest.main()
