"""Calls spelled as the interface spells them, and answers taken apart again."""

from cambox.cams import answers

LARGEST = 4294967295


def begins(places):
    return [0, places]


def cam(*heights):
    return [1, len(heights), *heights]


def wish(*heights):
    return [2, len(heights), *heights]


def sum_of(*plan):
    return [3, len(plan), *plan]


def nearest():
    return [4]


def evenest():
    return [5]


def in_one_list(calls):
    return [number for call in calls for number in call]


def taken_apart(given):
    """Each call's answer as a list, from the one list that is given back."""
    each = []
    at = 0
    while at < len(given):
        length = given[at]
        answer = given[at + 1:at + 1 + length]
        if length < 1 or len(answer) != length:
            raise AssertionError(f"not so many numbers as told at {at}: {given}")
        each.append(answer)
        at += 1 + length
    return each


def answered(*calls):
    return taken_apart(answers(in_one_list(calls)))
