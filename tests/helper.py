"""Writes calls as the flat list that the program takes, and cuts its answers apart."""

import unittest

from goodsplans.plans import answers

FAR = 10 ** 18


def row(numbers):
    numbers = list(numbers)
    return [len(numbers)] + numbers


def codes(text):
    return list(text) if isinstance(text, (bytes, list)) else list(text.encode("ascii"))


def begin(names):
    return [0] + row(codes(names))


def recipe(text):
    return [1] + row(codes(text))


def use(number, *units):
    return [2, number] + row(units)


def back():
    return [3]


def stock():
    return [4]


def plan():
    return [5]


def show(number):
    return [6, number]


def exchange(k):
    return [7, k]


def told():
    return [8]


def net():
    return [9]


def reach(names):
    return [10] + row(codes(names))


def follow(*course):
    return [11] + row(course)


def weigh(names, *weights):
    return [12] + row(codes(names)) + row(weights)


def need(number):
    return [13, number]


def joined(calls):
    flat = []
    for call in calls:
        flat += call
    return flat


def parted(flat):
    found = []
    at = 0
    while at < len(flat):
        end = at + 1 + flat[at]
        found.append(flat[at + 1:end])
        at = end
    assert at == len(flat), "the last answer is cut off"
    return found


def run(*calls):
    """The answer of each call, all of them on one new object."""
    flat = answers(joined(calls))
    assert all(type(number) is int for number in flat), "not all are whole numbers"
    found = parted(flat)
    assert len(found) == len(calls), "not one answer a call"
    return found


def last(*calls):
    return run(*calls)[-1]


def shown(text):
    """What a counted text is as an answer."""
    return row(codes(text))


def text_told(answer):
    """The text that an answer is behind its count."""
    assert answer[0] == len(answer) - 1, "the count is not that of the bytes"
    return bytes(answer[1:]).decode("ascii")


def used(*uses):
    """The answer of plan for uses told as (recipe, unit, unit ..)."""
    answer = [len(uses)]
    for number, *units in uses:
        answer += [number] + row(units)
    return answer


def in_stock(*units):
    """The answer of stock for units told as (number, name)."""
    answer = [len(units)]
    for number, name in units:
        answer += [number] + shown(name)
    return answer


def form_of(text):
    """The form of the recipe that a text is, or the refusal's number."""
    added, form = run(recipe(text), show(0))
    if added != [0]:
        assert len(added) == 1 and added[0] < 0, added
        assert form == [-2], "a refused recipe was added"
        return added[0]
    return text_told(form)


class Case(unittest.TestCase):
    """A test that can ask whether a refused call left everything as it was."""

    def check_refused(self, ahead, call, number):
        looks = [stock(), plan(), net()]
        for k in range(-1, 13):
            looks += [show(k), need(k)]
        before = run(*ahead, *looks)
        after = run(*ahead, call, *looks)
        self.assertEqual(after[len(ahead)], [number])
        self.assertEqual(after[len(ahead) + 1:], before[len(ahead):])
