"""Promises 2 and 3: form and size."""

import unittest

from helpers import answer_to, ask, form_after, form_call, size_call


class Form(unittest.TestCase):
    def test_at_the_beginning(self):
        self.assertEqual(ask(form_call()), [[14] + list(b"a, ~a ;  ; 0-1")])

    def test_blanks_are_laid_anew(self):
        self.assertEqual(form_after("  a|b,~a | ~b;  ;   0-2 1-3  "), "a|b, ~a|~b ;  ; 0-2 1-3")

    def test_with_cuts(self):
        text = "a, ~a;~b,c;0-1 2-3 4-5"
        self.assertEqual(form_after(text), "a, ~a ; ~b, c ; 0-1 2-3 4-5")

    def test_without_conclusions(self):
        self.assertEqual(form_after(";a;0-1"), " ; a ; 0-1")

    def test_the_empty_structure(self):
        self.assertEqual(answer_to(";;", form_call()), [6] + list(b" ;  ; "))

    def test_brackets(self):
        text = "((a*b)*(a*b)), ((~a|(~b))|((~a|~b))) ; ; 0-4 1-5 2-6 3-7"
        self.assertEqual(form_after(text), "(a*b)*a*b, (~a|~b)|~a|~b ;  ; 0-4 1-5 2-6 3-7")
        text = "a*(b|a), (~a*~b)|~a ; ; 0-3 1-4 2-5"
        self.assertEqual(form_after(text), "a*(b|a), (~a*~b)|~a ;  ; 0-3 1-4 2-5")

    def test_numbers_of_several_digits(self):
        atoms = ", ".join(6 * ["a"] + 6 * ["~a"])
        links = "0-11 1-10 2-9 3-8 4-7 5-6"
        self.assertEqual(form_after(atoms + ";;" + links), atoms + " ;  ; " + links)

    def test_the_form_is_read_as_the_same(self):
        form = form_after("(a-ob)-o~c, ~~c|((a -o b));~(b|a);0-4 1-5 2-3 6-8 7-9")
        self.assertEqual(form, "(a*~b)|~c, c|~a|b ; ~b*~a ; 0-4 1-5 2-3 6-8 7-9")
        self.assertEqual(form_after(form), form)


class Size(unittest.TestCase):
    def test_at_the_beginning(self):
        self.assertEqual(ask(size_call()), [[2, 0, 4]])

    def test_tensors_and_pars(self):
        self.assertEqual(answer_to("a|b, ~a|~b ; ; 0-2 1-3", size_call()), [6, 2, 12])
        self.assertEqual(answer_to("a*b, ~a|~b ; ; 0-2 1-3", size_call()), [6, 2, 12])

    def test_a_cut_counts_twice(self):
        self.assertEqual(answer_to("a*b, ~a|~b ; a*b ; 0-6 1-7 2-4 3-5", size_call()), [12, 4, 24])

    def test_the_empty_structure(self):
        self.assertEqual(answer_to(";;", size_call()), [0, 0, 0])


if __name__ == "__main__":
    unittest.main()
