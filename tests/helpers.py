"""Calls written out as the interface asks, and answers taken apart again."""

import re

from proofpaths.structure import answers


def bytes_of(text):
    return list(text) if isinstance(text, (list, bytes)) else list(text.encode("latin-1"))


def row(numbers):
    return [len(numbers)] + list(numbers)


def set_call(text):
    return [0] + row(bytes_of(text))


def form_call():
    return [1]


def size_call():
    return [2]


def next_call(passage, switching):
    return [3, passage] + row(switching)


def trip_call(passage, switching):
    return [4, passage] + row(switching)


def path_call(switching):
    return [5] + row(switching)


def check_call():
    """The call that is named test."""
    return [6]


def bad_call():
    return [7]


def token_call(conclusion, place):
    return [8, conclusion] + row(place)


def play_call(conclusion, other_conclusion, entered, text, place):
    return [9, conclusion, other_conclusion, entered] + row(bytes_of(text)) + row(place)


def place_call(leaf):
    return [10, leaf]


def draw_call():
    return [11]


def ask(*calls):
    """The answer of each call, all made on one new object."""
    line = [number for call in calls for number in call]
    given = answers(line)
    split = []
    at = 0
    while at < len(given):
        split.append(given[at + 1:at + 1 + given[at]])
        at += 1 + given[at]
    if at != len(given) or len(split) != len(calls):
        raise AssertionError("the answers are not one for each call: %r" % (given,))
    return split


def answer_to(text, call):
    """What a call answers when the structure with this text is held."""
    first, second = ask(set_call(text), call)
    if first[0] < 0:
        raise AssertionError("refused with %d: %r" % (first[0], text))
    return second


def set_answer(text):
    answer = ask(set_call(text))[0]
    if len(answer) != 1:
        raise AssertionError("set answers one number, not %r" % (answer,))
    return answer[0]


def form_after(text):
    answer = answer_to(text, form_call())
    if answer[0] != len(answer) - 1:
        raise AssertionError("the count of bytes is wrong: %r" % (answer,))
    return bytes(answer[1:]).decode("latin-1")


def is_formula(text):
    """Whether the text is read as a formula: alone and without links it's refused, but not as no text."""
    return set_answer(text + ";;") != -1


def read_as(formula):
    """The form of a formula, which is put beside its dual, so that it can be linked."""
    half = len(re.findall("[a-z][a-z0-9]*", formula.replace("-o", " ")))
    links = " ".join("%d-%d" % (leaf, leaf + half) for leaf in range(half))
    return form_after("%s, ~(%s) ; ; %s" % (formula, formula, links)).split(",")[0]


def balanced(name, count):
    """A formula of this many atoms that is no deeper than it must be."""
    if count == 1:
        return name
    return "(%s)*(%s)" % (balanced(name, count // 2), balanced(name, count - count // 2))


def links_text(pairs):
    """The links in their form, whichever way round the pairs are told."""
    return " ".join("%d-%d" % pair for pair in sorted((min(pair), max(pair)) for pair in pairs))


def straight_links(half, begin=0):
    """Each of the leaves from begin on with the one that lies that many behind it."""
    return " ".join("%d-%d" % (leaf, leaf + half) for leaf in range(begin, begin + half))
