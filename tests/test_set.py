"""Promise 1: set, with how texts are read as formulas, sequents, links and structures."""

import unittest

from helpers import (ask, balanced, form_after, form_call, is_formula, path_call, read_as, set_answer, set_call,
                     size_call, straight_links)


class Names(unittest.TestCase):
    def test_letters_and_digits(self):
        for name in ("a", "z", "a0", "a9z", "o", "abcdefghijkl", "a12345678901"):
            self.assertEqual(read_as(name), name)

    def test_twelve_bytes_but_not_thirteen(self):
        self.assertEqual(set_answer("abcdefghijkl, ~abcdefghijkl ; ; 0-1"), 2)
        self.assertEqual(set_answer("abcdefghijklm, ~abcdefghijklm ; ; 0-1"), -1)
        self.assertEqual(set_answer("a123456789012, ~a123456789012 ; ; 0-1"), -1)

    def test_a_digit_is_not_the_first(self):
        for name in ("1", "1a", "0a0", "9"):
            self.assertFalse(is_formula(name))

    def test_other_bytes(self):
        for byte in range(256):
            if byte not in b"abcdefghijklmnopqrstuvwxyz0123456789 ;,":
                self.assertEqual(set_answer(bytes([97, byte]) + b";;"), -1, byte)
        for byte in (0, 9, 10, 13, 65, 95, 160, 255):
            self.assertEqual(set_answer(bytes([byte]) + b"a;;"), -1, byte)


class Formulas(unittest.TestCase):
    def test_signs(self):
        self.assertEqual(read_as("a*b"), "a*b")
        self.assertEqual(read_as("a|b"), "a|b")
        self.assertEqual(read_as("~a"), "~a")
        self.assertEqual(read_as("(a)"), "a")
        self.assertEqual(read_as("((a*b))"), "a*b")

    def test_chains_nest_to_the_right(self):
        self.assertEqual(read_as("a*(b*c)"), "a*b*c")
        self.assertEqual(read_as("(a*b)*c"), "(a*b)*c")
        self.assertEqual(read_as("a|b|(c|d)"), "a|b|c|d")

    def test_a_chain_has_one_sign(self):
        for text in ("a*b|c", "a|b*c", "a*b*c|d", "a|b|c*d", "(a*b|c)", "~a*b|c", "a-ob*c|d"):
            self.assertFalse(is_formula(text), text)
        self.assertEqual(read_as("a*(b|c)*d"), "a*(b|c)*d")
        self.assertEqual(read_as("a*b-oc|d"), "(~a|~b)|c|d")

    def test_duals(self):
        self.assertEqual(read_as("~~a"), "a")
        self.assertEqual(read_as("~~~a"), "~a")
        self.assertEqual(read_as("~(a*b)"), "~a|~b")
        self.assertEqual(read_as("~(a|~b)"), "~a*b")
        self.assertEqual(read_as("~(a*(b|c))*d"), "(~a|(~b*~c))*d")
        self.assertEqual(read_as("~a*b"), "~a*b")

    def test_arrow(self):
        self.assertEqual(read_as("a-ob"), "~a|b")
        self.assertEqual(read_as("a -o b -o c"), "~a|~b|c")
        self.assertEqual(read_as("(a -o b) -o c"), "(a*~b)|c")
        self.assertEqual(read_as("~(a -o b)"), "a*~b")
        self.assertEqual(read_as("~a -o b"), "a|b")
        self.assertEqual(read_as("a -o b*c"), "~a|(b*c)")

    def test_arrow_before_an_o_and_beside_names(self):
        self.assertEqual(read_as("a-oo"), "~a|o")
        self.assertEqual(read_as("o-oo1"), "~o|o1")
        self.assertFalse(is_formula("a-o1"))
        self.assertFalse(is_formula("a- ob"))
        self.assertFalse(is_formula("a-b"))
        self.assertFalse(is_formula("a-"))

    def test_blanks_between_tokens(self):
        self.assertEqual(read_as("  ~  ( a  *b )  -o   c "), "(a*b)|c")
        self.assertFalse(is_formula("a b"))
        self.assertFalse(is_formula("a - o b"))

    def test_unfinished_and_misplaced(self):
        for text in ("*", "~", "(", ")", "-o", "()", "a*", "*a", "a**b", "a*|b", "a-o", "-oa", "a-o-ob", "(a", "a)",
                     "(a))", "((a)", "a~", "a~b", "a(b)", "(a)b", "(a)(b)", "~*a", "(a*)", "(*a)", "a*-ob", "(a-o)"):
            self.assertFalse(is_formula(text), text)

    def test_two_thousand_bytes(self):
        self.assertEqual(set_answer("a" + 1999 * " " + ",~a;;0-1"), 2)
        self.assertEqual(set_answer("a" + 2000 * " " + ",~a;;0-1"), -1)
        self.assertEqual(set_answer("a," + 1998 * " " + "~a;;0-1"), 2)
        self.assertEqual(set_answer("a," + 1999 * " " + "~a;;0-1"), -1)


class PendingSigns(unittest.TestCase):
    def check(self, fitting, too_many):
        self.assertTrue(is_formula(fitting))
        self.assertFalse(is_formula(too_many))

    def test_brackets(self):
        self.assertEqual(set_answer(100 * "(" + "a" + 100 * ")" + ", ~a ; ; 0-1"), 2)
        self.assertEqual(set_answer(101 * "(" + "a" + 101 * ")" + ", ~a ; ; 0-1"), -1)

    def test_tildes(self):
        self.assertEqual(set_answer(100 * "~" + "a, ~a ; ; 0-1"), 2)
        self.assertEqual(set_answer(101 * "~" + "a, a ; ; 0-1"), -1)

    def test_arrows(self):
        self.check(100 * "a-o" + "a", 101 * "a-o" + "a")

    def test_chain_signs(self):
        self.check(100 * "a*" + "a", 101 * "a*" + "a")
        self.check(100 * "a|" + "a", 101 * "a|" + "a")

    def test_all_together(self):
        self.check("~(a-ob*" + 96 * "(" + "a" + 96 * ")" + ")", "~(a-ob*" + 97 * "(" + "a" + 97 * ")" + ")")

    def test_ended_ones_do_not_count(self):
        self.check("(a)*" + 99 * "a*" + "a", 100 * "a*" + "(a)")
        self.check("~a*" + 99 * "a*" + "a", 100 * "a*" + "~a")
        self.check(100 * "a*" + "a-o" + 99 * "~" + "a", 100 * "a*" + "a-o" + 100 * "~" + "a")
        self.check("(" + 99 * "a*" + "a)*" + 99 * "~" + "a", "(" + 99 * "a*" + "a)*" + 100 * "~" + "a")
        self.check("(a-ob)-o" + 99 * "(" + "a" + 99 * ")", "(a-ob)-o" + 100 * "(" + "a" + 100 * ")")
        self.assertTrue(is_formula(50 * "(~a)*" + "a"))


class Sequents(unittest.TestCase):
    def test_empty_ones(self):
        for text in (";;", " ; ; ", "   ;      ;  ", 3900 * " " + ";;"):
            self.assertEqual(set_answer(text), 0, text)

    def test_a_missing_formula(self):
        for text in (",;;", "a,,~a;;0-1", "a,~a,;;0-1", ",a,~a;;0-1", "a, ,~a;;0-1", "a,~a;,;0-1", "a,~a; , ;0-1"):
            self.assertEqual(set_answer(text), -1, text)

    def test_twenty_conclusions(self):
        twenty = ",".join(10 * ["a"] + 10 * ["~a"])
        self.assertEqual(set_answer(twenty + ";;" + straight_links(10)), 20)
        self.assertEqual(set_answer(twenty + ",a;;" + straight_links(10)), -1)

    def test_twenty_cuts(self):
        links = " ".join("%d-%d" % (leaf, leaf + 1) for leaf in range(0, 40, 2))
        self.assertEqual(set_answer(";" + ",".join(20 * ["a"]) + ";" + links), 40)
        self.assertEqual(set_answer(";" + ",".join(21 * ["a"]) + ";" + links), -1)


class Links(unittest.TestCase):
    def test_blanks_round_them(self):
        for links in ("0-1", " 0-1", "0-1 ", "    0-1   "):
            self.assertEqual(set_answer("a,~a;;" + links), 2, links)

    def test_no_links_text(self):
        for links in ("0", "-", "0-", "-1", "0--1", "0-1-", "0 -1", "0- 1", "0-1,", "0-1;", "x", "0-x", "+0-1", "0-1\t",
                      "\n0-1", "0_0-1", "0:1", "0-1."):
            self.assertEqual(set_answer("a,~a;;" + links), -1, links)

    def test_needless_zeros(self):
        for links in ("00-1", "0-01", "0-001"):
            self.assertEqual(set_answer("a,~a;;" + links), -1, links)

    def test_the_lesser_number_comes_first(self):
        self.assertEqual(set_answer("a,~a;;1-0"), -1)
        self.assertEqual(set_answer("a,~a;;0-0"), -1)
        self.assertEqual(set_answer("a,~a;;10-9"), -1)

    def test_one_blank_between_pairs(self):
        self.assertEqual(set_answer("a,~a,b,~b;;0-1 2-3"), 4)
        self.assertEqual(set_answer("a,~a,b,~b;;0-1  2-3"), -1)
        self.assertEqual(set_answer("a,~a,b,~b;;0-12-3"), -1)
        self.assertEqual(set_answer("a,~a,b,~b;;0-1,2-3"), -1)

    def test_pairs_rise(self):
        self.assertEqual(set_answer("a,~a,b,~b;;2-3 0-1"), -1)
        self.assertEqual(set_answer("a,~a,b,~b;;0-1 0-1"), -1)
        self.assertEqual(set_answer("a,~a,a,~a;;0-3 1-2"), 4)

    def test_great_numbers(self):
        self.assertEqual(set_answer("a,~a;;0-1000000000000000000000"), -3)
        self.assertEqual(set_answer("a,~a;;0-" + 3900 * "9"), -3)
        self.assertEqual(set_answer("a,~a;;" + 1900 * "9" + "-" + 1900 * "8"), -1)


class Semicolons(unittest.TestCase):
    def test_just_two(self):
        for text in ("", " ", ";", "a,~a", "a,~a;0-1", "a,~a;;0-1;", "a,~a;;;0-1", ";;;"):
            self.assertEqual(set_answer(text), -1, text)


class Refusals(unittest.TestCase):
    def test_sixty_atoms(self):
        sixty = balanced("a", 60)
        self.assertEqual(set_answer("%s,~(%s);;%s" % (sixty, sixty, straight_links(60))), 120)
        more = balanced("a", 61)
        self.assertEqual(set_answer("%s,~(%s);;%s" % (more, more, straight_links(61))), -6)
        self.assertEqual(set_answer(";%s;%s" % (more, straight_links(61))), -6)

    def test_depth_forty(self):
        for sign in ("*", "|", "-o"):
            forty = sign.join(40 * ["a"])
            self.assertEqual(set_answer("%s,~(%s);;%s" % (forty, forty, straight_links(40))), 80)
            self.assertEqual(set_answer(";%s;%s" % (forty, straight_links(40))), 80)
            deeper = sign.join(41 * ["a"])
            self.assertEqual(set_answer("%s,~(%s);;%s" % (deeper, deeper, straight_links(41))), -6)

    def test_depth_to_the_left(self):
        forty = 39 * "(" + "a" + 39 * "*a)"
        self.assertEqual(set_answer(";%s;%s" % (forty, straight_links(40))), 80)
        self.assertEqual(set_answer(";%s;%s" % (40 * "(" + "a" + 40 * "*a)", straight_links(41))), -6)

    def test_leaves(self):
        thirty = balanced("a", 30)
        links = straight_links(30) + " " + straight_links(30, 60)
        self.assertEqual(set_answer("%s,~(%s);%s;%s" % (thirty, thirty, thirty, links)), 120)
        text = "%s,~(%s),b,~b;%s;%s" % (thirty, thirty, thirty, straight_links(30))
        self.assertEqual(set_answer(text), -5)
        forty = balanced("a", 40)
        self.assertEqual(set_answer("%s,%s,%s;;" % (forty, forty, forty)), -3)
        self.assertEqual(set_answer("%s,%s,%s,a;;" % (forty, forty, forty)), -5)

    def test_links_that_do_not_pair_the_leaves(self):
        for text in ("a,~a;;", "a,~a;;0-2", "a,~a;;0-1 2-3", "a,~a,b,~b;;0-1", "a,~a,a;;0-1", "a,~a,a,~a;;0-1 1-2",
                     "a,~a,~a;;0-1", "a,a,~a;;0-2 1-2", ";;0-1", "a;;", "a,~a;a;0-1"):
            self.assertEqual(set_answer(text), -3, text)

    def test_linked_leaves_are_opposite(self):
        for text in ("a,a;;0-1", "~a,~a;;0-1", "a,~b;;0-1", "a,~a0;;0-1", "a,~a,b,~b;;0-2 1-3", "a,~a,b,~b;;0-3 1-2"):
            self.assertEqual(set_answer(text), -3, text)
        self.assertEqual(set_answer("~a,a;;0-1"), 2)

    def test_no_text_comes_first(self):
        self.assertEqual(set_answer("%s;;x" % balanced("a", 61)), -1)
        self.assertEqual(set_answer("%s;A;" % balanced("a", 61)), -1)
        self.assertEqual(set_answer(",".join(20 * ["a*a*a*a*a*a*a"]) + ",a;;"), -1)

    def test_bounds_come_before_leaves_and_pairs(self):
        self.assertEqual(set_answer("%s;%s;" % (balanced("a", 60), balanced("a", 61))), -6)
        self.assertEqual(set_answer("a;%s;0-1" % balanced("a", 61)), -6)

    def test_leaves_come_before_pairs(self):
        self.assertEqual(set_answer("%s,%s,a;;0-1" % (balanced("a", 60), balanced("a", 60))), -5)

    def test_a_refused_set_leaves_the_structure(self):
        refused = ("x", "%s;;" % balanced("a", 61), ",".join(3 * [balanced("a", 41)]) + ";;", "b,b;;0-1")
        held = "a|b, ~a|~b ; ; 0-2 1-3"
        before = ask(set_call(held), form_call(), size_call(), path_call([0, 0]))[1:]
        for text, number in zip(refused, (-1, -6, -5, -3)):
            after = ask(set_call(held), set_call(text), form_call(), size_call(), path_call([0, 0]))
            self.assertEqual(after[1], [number])
            self.assertEqual(after[2:], before)


class Held(unittest.TestCase):
    def test_the_leaves_are_counted(self):
        self.assertEqual(set_answer("a|b, ~a|~b ; ; 0-2 1-3"), 4)
        self.assertEqual(set_answer("a, ~a ; a ; 0-3 1-2"), 4)

    def test_the_last_one_is_held(self):
        given = ask(set_call("b,~b;;0-1"), set_call("c,~c;;0-1"), form_call())
        self.assertEqual(bytes(given[2][1:]), b"c, ~c ;  ; 0-1")

    def test_the_empty_one_is_held(self):
        self.assertEqual(ask(set_call(";;"), form_call(), size_call()), [[0], [6] + list(b" ;  ; "), [0, 0, 0]])

    def test_a_cut_stands_for_its_dual_too(self):
        self.assertEqual(form_after("a*b, ~a|~b ; a*b ; 0-6 1-7 2-4 3-5"), "a*b, ~a|~b ; a*b ; 0-6 1-7 2-4 3-5")


if __name__ == "__main__":
    unittest.main()
