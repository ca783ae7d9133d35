"""Promise 12: draw."""

import random
import unittest

from building import random_net, random_structure, turned_sign
from helpers import (answer_to, ask, balanced, check_call, draw_call, form_call, links_text, set_call, size_call,
                     straight_links)


class Draw(unittest.TestCase):
    def check(self, text, expected):
        self.assertEqual(answer_to(text, draw_call()), [expected], text)

    def test_at_the_beginning(self):
        self.assertEqual(ask(draw_call()), [[1]])

    def test_tensors_and_pars(self):
        self.check("a*b, ~a|~b ; ; 0-2 1-3", 1)
        self.check("a|~a ; ; 0-1", 1)
        self.check("a*b, ~a, ~b ; ; 0-2 1-3", 1)

    def test_several_clusters_in_the_end(self):
        self.check("a, ~a, b, ~b ; ; 0-1 2-3", 0)
        self.check("a|~a, b|~b ; ; 0-1 2-3", 0)

    def test_a_tensor_joins_what_is_one(self):
        self.check("a*~a ; ; 0-1", 0)
        self.check("a*b, ~a*~b ; ; 0-2 1-3", 0)

    def test_a_tensor_and_both_its_formulas(self):
        # Without the edge to the first, or to the second formula, two clusters would be left.
        self.check("(a|~a)*b, ~b ; ; 0-1 2-3", 1)
        self.check("b*(a|~a), ~b ; ; 0-3 1-2", 1)

    def test_a_par_that_is_never_taken(self):
        self.check("a|b, ~a|~b ; ; 0-2 1-3", 0)
        self.check("(a|~a)|b, ~b ; ; 0-1 2-3", 0)
        # The par hangs in the cluster of its second formula; its first one is in another.
        self.check("(a|b)*~b, ~a ; ; 0-3 1-2", 0)

    def test_a_par_in_the_cluster_above_it(self):
        # There's one cluster, and the par's two formulas are in it: but so is the par.
        self.check("(a|b)*(~b*~a) ; ; 0-3 1-2", 0)
        self.check("(a|~a)*(b|~b) ; ; 0-1 2-3", 1)
        self.check("((a|~a)*b)|~b ; ; 0-1 2-3", 1)

    def test_pars_that_wait_for_others(self):
        # The outer par comes first among the points, and is taken last.
        self.check("(~a|~b)|(a*b) ; ; 0-2 1-3", 1)
        self.check("(a*b)|(~a|~b) ; ; 0-2 1-3", 1)
        self.check("((~a|~b)|~c)|(a*(b*c)) ; ; 0-3 1-4 2-5", 1)
        # Only when the par d|c is taken, a and b come into one cluster.
        self.check("a|b, ~a*(d|c), ~d*(~c*~b) ; ; 0-2 1-7 3-5 4-6", 1)

    def test_with_cuts(self):
        self.check("a, ~a ; a ; 0-3 1-2", 1)
        self.check("a, ~a ; a, ~a ; 0-3 1-5 2-4", 1)
        self.check("a*b, ~a|~b ; a*b ; 0-6 1-7 2-4 3-5", 1)
        self.check("a, ~a ; b|~b ; 0-1 2-4 3-5", 0)

    def test_a_cut_joins_what_is_one(self):
        self.check(" ; a ; 0-1", 0)
        self.check("a, ~a ; a ; 0-1 2-3", 0)
        self.check("a, ~a ; a, ~a ; 0-1 2-4 3-5", 0)

    def test_the_empty_structure(self):
        self.check(";;", 0)

    def test_the_greatest_structures(self):
        sixty = balanced("a", 60)
        self.check("%s,~(%s);;%s" % (sixty, sixty, straight_links(60)), 1)
        self.check("%s,%s;;%s" % (sixty, sixty.replace("a", "~a"), straight_links(60)), 0)
        forty = "*".join(40 * ["a"])
        self.check("%s,~(%s);;%s" % (forty, forty, straight_links(40)), 1)
        self.check("%s,~(%s);;%s" % (forty, forty, links_text([(leaf, 79 - leaf) for leaf in range(40)])), 1)
        thirty = balanced("a", 30)
        pairs = [(leaf, leaf + 90) for leaf in range(30)] + [(leaf + 30, leaf + 60) for leaf in range(30)]
        self.check("%s,~(%s);%s;%s" % (thirty, thirty, thirty, links_text(pairs)), 1)

    def test_it_leaves_the_structure(self):
        for text in ("a|b, ~a|~b ; ; 0-2 1-3", "a, ~a ; a ; 0-3 1-2", ";;"):
            given = ask(set_call(text), form_call(), size_call(), draw_call(), draw_call(), form_call(), size_call())
            self.assertEqual(given[1:3], given[5:])
            self.assertEqual(given[3], given[4])


class Nets(unittest.TestCase):
    """A structure draws together just if it's a net."""

    def test_built_nets(self):
        source = random.Random(41)
        for index in range(300):
            text = random_net(source)
            self.assertEqual(answer_to(text, draw_call()), [1], text)

    def test_as_test_answers(self):
        source = random.Random(42)
        met = {0: 0, 1: 0, -7: 0}
        for index in range(500):
            for text in (random_structure(source), turned_sign(source, random_net(source))):
                held, whether_long, draws = ask(set_call(text), check_call(), draw_call())
                if held[0] >= 0:
                    met[whether_long[0]] += 1
                    if whether_long != [-7]:
                        self.assertEqual(draws, whether_long, text)
        self.assertGreater(min(met.values()), 20)


if __name__ == "__main__":
    unittest.main()
