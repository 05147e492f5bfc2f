"""Writes calls as the flat list that the program takes, and cuts its answers apart."""

import unittest

from goodsplans.plans import answers

FAR = 10 ** 18


def row(numbers):
    numbers = list(numbers)
    return [len(numbers)] + numbers


def codes(text):
    return list(text) if isinstance(text, (bytes, list)) else list(text.encode("ascii"))


def begin(names):
    return [0] + row(codes(names))


def recipe(text):
    return [1] + row(codes(text))


def use(number, *units):
    return [2, number] + row(units)


def back():
    return [3]


def stock():
    return [4]


def plan():
    return [5]


def show(number):
    return [6, number]


def need(number):
    return [13, number]


def joined(calls):
    flat = []
    for call in calls:
        flat += call
    return flat


def parted(flat):
    found = []
    at = 0
    while at < len(flat):
        end = at + 1 + flat[at]
        found.append(flat[at + 1:end])
        at = end
    assert at == len(flat), "the last answer is cut off"
    return found


def run(*calls):
    """The answer of each call, all of them on one new object."""
    told = answers(joined(calls))
    assert all(type(number) is int for number in told), "not all are whole numbers"
    found = parted(told)
    assert len(found) == len(calls), "not one answer a call"
    return found


def last(*calls):
    return run(*calls)[-1]


def shown(text):
    """What a counted text is as an answer."""
    return row(codes(text))


def in_stock(*units):
    """The answer of stock for units told as (number, name)."""
    answer = [len(units)]
    for number, name in units:
        answer += [number] + shown(name)
    return answer


def form_of(text):
    """The form of the recipe that a text is, or the refusal's number."""
    told = run(recipe(text), show(0))
    if told[0] != [0]:
        assert len(told[0]) == 1 and told[0][0] < 0, told
        assert told[1] == [-2], "a refused recipe was added"
        return told[0][0]
    assert told[1][0] == len(told[1]) - 1, "the count is not that of the bytes"
    return bytes(told[1][1:]).decode("ascii")


class Case(unittest.TestCase):
    """A test that can ask whether a refused call left everything as it was."""

    def check_refused(self, ahead, call, number):
        looks = [stock(), plan()]
        for k in range(-1, 13):
            looks += [show(k), need(k)]
        before = run(*ahead, *looks)
        after = run(*ahead, call, *looks)
        self.assertEqual(after[len(ahead)], [number])
        self.assertEqual(after[len(ahead) + 1:], before[len(ahead):])
