"""The program against the second reading, on inputs that are the same each time."""

import random
import unittest

import second_reading
from helpers import ask, form_call, next_call, path_call, set_call, size_call, trip_call


def random_formula(source, atoms):
    """A text of a formula over these atoms in this order, now and then with blanks."""
    blank = source.choice(["", "", " ", "  "])
    if len(atoms) == 1:
        return blank + atoms[0] + blank
    cut = source.randrange(1, len(atoms))
    sign = source.choice("*|")
    first = "(" + random_formula(source, atoms[:cut]) + ")"
    second = "(" + random_formula(source, atoms[cut:]) + ")"
    return blank + first + blank + sign + blank + second


def random_structure(source):
    """A text that is a structure's, with cuts now and then."""
    names = ["a", "b", "c0"]
    atoms = []
    for index in range(source.randrange(1, 8)):
        name = source.choice(names)
        atoms.extend([name, "~" + name])
    source.shuffle(atoms)
    sequents = [[], []]
    while atoms:
        size = source.randrange(1, min(5, len(atoms)) + 1)
        sequents[source.choice([0, 0, 0, 1])].append(random_formula(source, atoms[:size]))
        atoms = atoms[size:]
    conclusions, cuts = (",".join(formulas) for formulas in sequents)
    loose = second_reading.Structure(
        second_reading.read_sequent(conclusions), second_reading.read_sequent(cuts), [])
    return conclusions + ";" + cuts + ";" + links_over(source, loose.leaves)


def links_over(source, leaves):
    """Links that pair the leaves, or what is left of such if they can't be paired."""
    free = list(range(len(leaves)))
    source.shuffle(free)
    pairs = []
    while free:
        leaf = free.pop()
        fitting = [other for other in free if leaves[other] == second_reading.dual(leaves[leaf])]
        if fitting:
            free.remove(fitting[0])
            pairs.append((min(leaf, fitting[0]), max(leaf, fitting[0])))
    return " ".join("%d-%d" % pair for pair in sorted(pairs))


def spoilt(source, text):
    """The text with some bytes taken out, put in or put in another's place."""
    signs = list(text)
    for index in range(source.randrange(1, 3)):
        at = source.randrange(len(signs) + 1)
        signs[at:at + source.randrange(2)] = source.choice(["", *"ab01~*|()-o,; A", "-o"])
    return "".join(signs)


class SecondReading(unittest.TestCase):
    def compare(self, text):
        expected = second_reading.read_structure(text)
        if isinstance(expected, int):
            self.assertEqual(ask(set_call(text))[0], [expected], text)
            return expected
        got = ask(set_call(text), form_call(), size_call())
        form = list(expected.form().encode())
        self.assertEqual(got[0], [len(expected.leaves)], text)
        self.assertEqual(got[1], [len(form)] + form, text)
        points = len(expected.points)
        self.assertEqual(got[2], [points, len(expected.junctions), 2 * points], text)
        return expected

    def compare_trips(self, source, text, structure):
        switching = [source.randrange(2) for junction in structure.junctions]
        passages = range(2 * len(structure.points))
        calls = [set_call(text), path_call(switching)]
        calls.extend(next_call(passage, switching) for passage in passages)
        calls.extend(trip_call(passage, switching) for passage in passages)
        trips = [structure.trip(passage, switching) for passage in passages]
        expected = [[len(structure.leaves)], [len(trips[0])] + trips[0]]
        expected.extend([structure.behind(passage, switching)] for passage in passages)
        expected.extend([len(trip)] for trip in trips)
        self.assertEqual(ask(*calls), expected, text)

    def test_structures_and_trips(self):
        source = random.Random(1)
        held = 0
        for index in range(300):
            text = random_structure(source)
            structure = self.compare(text)
            if not isinstance(structure, int):
                held += 1
                self.compare_trips(source, text, structure)
        self.assertGreater(held, 100)

    def test_spoilt_texts(self):
        source = random.Random(2)
        refused = {}
        for index in range(3000):
            result = self.compare(spoilt(source, random_structure(source)))
            key = result if isinstance(result, int) else "held"
            refused[key] = refused.get(key, 0) + 1
        self.assertGreater(refused[-1], 500)
        self.assertGreater(refused[-3], 100)
        self.assertGreater(refused["held"], 50)

    def test_signs_in_any_order(self):
        source = random.Random(3)
        read = 0
        for index in range(20000):
            tokens = [source.choice(["a", "b", "~", "*", "|", "(", ")", "-o", " "])
                      for place in range(source.randrange(1, 10))]
            result = self.compare("".join(tokens) + ";;")
            read += result != -1
        self.assertGreater(read, 300)


if __name__ == "__main__":
    unittest.main()
