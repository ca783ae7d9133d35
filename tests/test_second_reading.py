"""The program against the second reading, on inputs that are the same each time."""

import random
import unittest

import second_reading
from building import random_net, random_opponent, random_structure, spoilt, turned_sign
from helpers import (ask, bad_call, check_call, draw_call, form_call, next_call, path_call, place_call, play_call,
                     set_call, size_call, token_call, trip_call)

CALLS = {"set": set_call, "form": form_call, "size": size_call, "next": next_call, "trip": trip_call,
         "path": path_call, "test": check_call, "bad": bad_call, "token": token_call, "play": play_call,
         "place": place_call, "draw": draw_call}


class RandomLine:
    """Makes calls by chance, most of them such as the structure that is held then does not refuse."""

    def __init__(self, source):
        self.source = source
        self.expected = second_reading.Line()

    def next_one(self):
        """A call's name and what is handed in."""
        name = self.source.choice(["set", "token", "play", "place"] + list(CALLS))
        makers = {"set": self.for_set, "next": self.for_next, "trip": self.for_next, "path": self.for_path,
                  "token": self.for_token, "play": self.for_play, "place": self.for_place}
        return name, makers.get(name, tuple)()

    def around(self, count):
        """A number from 0 to count - 1; now and then another one."""
        wrong = self.source.choice([-1, count, count + 1, -10 ** 18, 10 ** 18])
        return self.source.choice([wrong] + 9 * [self.source.randrange(max(count, 1))])

    def text(self):
        make = self.source.choice([random_net, random_structure])
        text = make(self.source)
        return self.source.choice([text, text, turned_sign(self.source, text), spoilt(self.source, text), ";;"])

    def for_set(self):
        return (self.text(),)

    def for_path(self):
        count = len(self.expected.held.junctions)
        count = self.source.choice(7 * [count] + [count + 1])
        switching = [self.source.randrange(2) for junction in range(count)]
        if switching:
            switching[self.source.randrange(count)] = self.source.choice([0, 0, 0, 1, 1, 1, 2])
        return (switching,)

    def for_next(self):
        return (self.around(2 * len(self.expected.held.points)), *self.for_path())

    def for_token(self):
        held = self.expected.held
        points = [point for point in held.partner if held.is_conclusion(point[0])]
        if points == []:
            return (self.around(1), [])
        conclusion, place = self.source.choice(points)
        spoilt_place = self.source.choice([place[:-1], place + (0,), place[:-1] + (2,)])
        place = self.source.choice([spoilt_place] + 7 * [place])
        return (self.source.choice([self.around(len(held.conclusions))] + 7 * [conclusion]), list(place))

    def for_play(self):
        conclusions = self.expected.held.conclusions
        c, place = self.for_token()
        i = self.around(len(conclusions))
        if i in range(len(conclusions)):
            text, j = random_opponent(self.source, conclusions[i])
            text = self.source.choice([spoilt(self.source, text), self.text()] + 8 * [text])
            return (i, self.source.choice([self.around(3)] + 9 * [j]), c, text, place)
        return (i, self.around(3), c, self.text(), place)

    def for_place(self):
        return (self.around(len(self.expected.held.leaves)),)


class SecondReading(unittest.TestCase):
    def compare(self, text):
        expected = second_reading.read_structure(text)
        if isinstance(expected, int):
            self.assertEqual(ask(set_call(text))[0], [expected], text)
            return expected
        got = ask(set_call(text), form_call(), size_call())
        form = list(expected.form().encode())
        self.assertEqual(got[0], [len(expected.leaves)], text)
        self.assertEqual(got[1], [len(form)] + form, text)
        points = len(expected.points)
        self.assertEqual(got[2], [points, len(expected.junctions), 2 * points], text)
        return expected

    def compare_trips(self, source, text, structure):
        switching = [source.randrange(2) for junction in structure.junctions]
        passages = range(2 * len(structure.points))
        calls = [set_call(text), path_call(switching)]
        calls.extend(next_call(passage, switching) for passage in passages)
        calls.extend(trip_call(passage, switching) for passage in passages)
        trips = [structure.trip(passage, switching) for passage in passages]
        expected = [[len(structure.leaves)], [len(trips[0])] + trips[0]]
        expected.extend([structure.behind(passage, switching)] for passage in passages)
        expected.extend([len(trip)] for trip in trips)
        self.assertEqual(ask(*calls), expected, text)

    def test_structures_and_trips(self):
        source = random.Random(1)
        held = 0
        for index in range(300):
            text = random_structure(source)
            structure = self.compare(text)
            if not isinstance(structure, int):
                held += 1
                self.compare_trips(source, text, structure)
        self.assertGreater(held, 100)

    def test_spoilt_texts(self):
        source = random.Random(2)
        refused = {}
        for index in range(3000):
            result = self.compare(spoilt(source, random_structure(source)))
            key = result if isinstance(result, int) else "held"
            refused[key] = refused.get(key, 0) + 1
        self.assertGreater(refused[-1], 500)
        self.assertGreater(refused[-3], 100)
        self.assertGreater(refused["held"], 50)

    def test_signs_in_any_order(self):
        source = random.Random(3)
        read = 0
        for index in range(20000):
            tokens = [source.choice(["a", "b", "~", "*", "|", "(", ")", "-o", " "])
                      for place in range(source.randrange(1, 10))]
            result = self.compare("".join(tokens) + ";;")
            read += result != -1
        self.assertGreater(read, 300)


class Lines(unittest.TestCase):
    def test_all_calls_mixed(self):
        source = random.Random(4)
        met = {}
        for index in range(60):
            line = RandomLine(source)
            calls, expected = [], []
            while len(calls) < 240 and sum(map(len, calls)) < 14000:
                name, handed_in = line.next_one()
                calls.append(CALLS[name](*handed_in))
                expected.append(getattr(line.expected, name)(*handed_in))
                key = (name, min(expected[-1][0], 0))
                met[key] = met.get(key, 0) + 1
            self.assertEqual(ask(*calls), expected)
        self.check_that_all_was_met(met)

    def check_that_all_was_met(self, met):
        refusals = {"set": (-1, -3), "form": (), "size": (), "next": (-4, -1), "trip": (-4, -1), "path": (-4, -1),
                    "test": (-7,), "bad": (-7, -4), "token": (-4,), "play": (-1, -3, -4, -8), "place": (-4,),
                    "draw": ()}
        for name, numbers in refusals.items():
            for number in (0, *numbers):
                self.assertGreater(met.get((name, number), 0), 5, (name, number))


if __name__ == "__main__":
    unittest.main()
