"""Promises 7 and 8: test and bad."""

import random
import unittest

import second_reading
from building import random_net, random_structure, turned_sign
from helpers import (answer_to, ask, bad_call, balanced, check_call, form_call, links_text, path_call, set_call,
                     size_call, straight_links, trip_call)

PARS = "a|b, ~a|~b ; ; 0-2 1-3"
NET = "a*b, ~a|~b ; ; 0-2 1-3"
# With the par's switch at 1 the trip goes round between b and ~b.
SECOND_BAD = "(a|b)*~b, ~a ; ; 0-3 1-2"


def tensors(count):
    """A net with this many junctions, in one conclusion."""
    names = ["n%d" % number for number in range(count + 1)]
    turned = ", ".join("~" + name for name in names)
    return "%s, %s ; ; %s" % ("*".join(names), turned, straight_links(count + 1))


def pars(count):
    """A structure that is no net, with this many junctions, in one conclusion."""
    return tensors(count).replace("*", "|")


def both(text):
    return ask(set_call(text), check_call(), bad_call())[1:]


class Test(unittest.TestCase):
    def test_at_the_beginning(self):
        self.assertEqual(ask(check_call()), [[1]])

    def test_nets(self):
        for text in (NET, "a|~a ; ; 0-1", "a*b, ~b, ~a ; ; 0-3 1-2", "(a*b)|(~a|~b) ; ; 0-2 1-3",
                     "a*b*c, ~c|~b, ~a ; ; 0-5 1-4 2-3"):
            self.assertEqual(answer_to(text, check_call()), [1], text)

    def test_no_nets(self):
        for text in (PARS, SECOND_BAD, "a*~a ; ; 0-1", "a*b, ~a*~b ; ; 0-2 1-3", "a, ~a, b, ~b ; ; 0-1 2-3",
                     "a|b, ~a, ~b ; ; 0-2 1-3", "(a|~a)|b, ~b ; ; 0-1 2-3"):
            self.assertEqual(answer_to(text, check_call()), [0], text)

    def test_with_cuts(self):
        for text in ("a, ~a ; a ; 0-3 1-2", "a, ~a ; a, ~a ; 0-3 1-5 2-4", "a*b, ~a|~b ; a*b ; 0-6 1-7 2-4 3-5"):
            self.assertEqual(answer_to(text, check_call()), [1], text)
        for text in (" ; a ; 0-1", "a, ~a ; a ; 0-1 2-3", "a, ~a ; b|~b ; 0-1 2-4 3-5",
                     "a|b, ~a|~b ; a*b ; 0-6 1-7 2-4 3-5"):
            self.assertEqual(answer_to(text, check_call()), [0], text)

    def test_every_switching_counts(self):
        # Long with the switching 0 0, and with 1 0.
        self.assertEqual([answer_to(SECOND_BAD, trip_call(0, [tensor, 0])) for tensor in (0, 1)], [[12], [12]])
        self.assertEqual(answer_to(SECOND_BAD, check_call()), [0])

    def test_the_empty_structure(self):
        self.assertEqual(answer_to(";;", check_call()), [0])

    def test_eight_junctions_but_not_nine(self):
        self.assertEqual(answer_to(tensors(8), size_call()), [26, 8, 52])
        self.assertEqual(answer_to(tensors(8), check_call()), [1])
        self.assertEqual(answer_to(pars(8), check_call()), [0])
        self.assertEqual(answer_to(tensors(9), check_call()), [-7])
        self.assertEqual(answer_to(pars(9), check_call()), [-7])

    def test_the_junctions_of_a_cut_count_twice(self):
        for count, junctions, expected in ((3, 6, 1), (4, 9, -7)):
            tensor = "*".join("n%d" % number for number in range(count))
            turned = ", ".join("~n%d" % number for number in range(count))
            pairs = [(leaf, leaf + 3 * count) for leaf in range(count)]
            pairs += [(leaf + count, leaf + 2 * count) for leaf in range(count)]
            text = "%s, %s ; %s ; %s" % (tensor, turned, tensor, links_text(pairs))
            self.assertEqual(answer_to(text, size_call())[1], junctions)
            self.assertEqual(answer_to(text, check_call()), [expected])

    def test_the_greatest_structure(self):
        sixty = balanced("a", 60)
        text = "%s,~(%s);;%s" % (sixty, sixty, straight_links(60))
        self.assertEqual(both(text), [[-7], [-7]])


class Bad(unittest.TestCase):
    def test_the_example(self):
        self.assertEqual(answer_to(PARS, bad_call()), [2, 0, 0, 8])

    def test_without_junctions(self):
        self.assertEqual(answer_to("a, ~a, b, ~b ; ; 0-1 2-3", bad_call()), [0, 4])
        self.assertEqual(answer_to(" ; a ; 0-1", bad_call()), [0, 2])

    def test_one_junction(self):
        # The trip is 0 2 5 1.
        self.assertEqual(answer_to("a*~a ; ; 0-1", bad_call()), [1, 0, 4])

    def test_not_the_first_of_all_switchings(self):
        # The trip is 0 2 6 9 1.
        self.assertEqual(answer_to(SECOND_BAD, bad_call()), [2, 0, 1, 5])
        # The trip is 0 2 4 11 9 1.
        self.assertEqual(answer_to("(a*b)*(~a*~b) ; ; 0-2 1-3", bad_call()), [3, 0, 0, 1, 6])

    def test_the_first_junction_weighs_most(self):
        # Each of the two pars makes the trip short with its switch at 1.
        text = "(a|b)*~b, (c|d)*~d, ~a*~c ; ; 0-6 1-2 3-7 4-5"
        for switching, length in (([0, 0, 0, 0, 0], 26), ([0, 0, 0, 0, 1], 26), ([0, 0, 0, 1, 0], 18)):
            self.assertEqual(answer_to(text, trip_call(0, switching)), [length])
        self.assertLess(answer_to(text, trip_call(0, [0, 1, 0, 0, 0]))[0], 26)
        self.assertEqual(answer_to(text, bad_call()), [5, 0, 0, 0, 1, 0, 18])

    def test_the_trip_from_passage_0_counts(self):
        # The trip from 4 has 8 passages, that from 5 has 4; with the conclusions first the one from 0 has 4.
        self.assertEqual(answer_to("a, ~a ; b|~b ; 0-1 2-4 3-5", bad_call()), [2, 0, 0, 4])

    def test_its_trip_is_what_trip_and_path_answer(self):
        for text in (PARS, SECOND_BAD, pars(8)):
            answer = answer_to(text, bad_call())
            switching = answer[1:-1]
            self.assertEqual(answer[0], len(switching))
            self.assertEqual(answer_to(text, trip_call(0, switching)), answer[-1:])
            self.assertEqual(answer_to(text, path_call(switching))[0], answer[-1])

    def test_nets_have_none(self):
        self.assertEqual(ask(bad_call()), [[-4]])
        for text in (NET, "a|~a ; ; 0-1", "a, ~a ; a ; 0-3 1-2"):
            self.assertEqual(answer_to(text, bad_call()), [-4], text)

    def test_the_empty_structure(self):
        self.assertEqual(answer_to(";;", bad_call()), [-4])

    def test_eight_junctions_but_not_nine(self):
        self.assertEqual(answer_to(tensors(8), bad_call()), [-4])
        # Up the pars to n0, over to ~n0, up and back, and down again.
        self.assertEqual(answer_to(pars(8), bad_call()), [8, 0, 0, 0, 0, 0, 0, 0, 0, 6])
        self.assertEqual(answer_to(pars(9), bad_call()), [-7])

    def test_the_junctions_are_looked_at_first(self):
        self.assertEqual(answer_to(tensors(9), bad_call()), [-7])


class Both(unittest.TestCase):
    def test_refusals_and_answers_leave_the_structure(self):
        for text in (PARS, NET, tensors(9), ";;"):
            calls = [form_call(), size_call(), trip_call(0, [0, 1])]
            before = ask(set_call(text), *calls)[1:]
            self.assertEqual(ask(set_call(text), check_call(), bad_call(), *calls)[3:], before)

    def test_built_nets(self):
        source = random.Random(12)
        met = {1: 0, -7: 0}
        for index in range(300):
            text = random_net(source)
            expected = 1 if answer_to(text, size_call())[1] <= 8 else -7
            met[expected] += 1
            self.assertEqual(both(text), [[expected], [-4 if expected == 1 else -7]], text)
        self.assertGreater(min(met.values()), 20)

    def test_a_turned_sign_spoils_a_net(self):
        source = random.Random(13)
        met = 0
        for index in range(300):
            text = random_net(source)
            has_sign = any(sign in text.split(";")[0] for sign in "*|")
            if has_sign and answer_to(text, size_call())[1] <= 8:
                met += 1
                self.assertEqual(answer_to(turned_sign(source, text), check_call()), [0], text)
        self.assertGreater(met, 50)

    def test_first_bad_switchings_that_have_a_1(self):
        source = random.Random(11)
        met = 0
        for index in range(3000):
            text = random_structure(source)
            structure = second_reading.read_structure(text)
            if isinstance(structure, int) or not 0 < len(structure.junctions) < 6:
                continue
            first = structure.first_bad()
            if first is not None and 1 in first[0]:
                met += 1
                self.assertEqual(both(text), [[0], [len(first[0])] + first[0] + [first[1]]], text)
        self.assertGreater(met, 20)


if __name__ == "__main__":
    unittest.main()
