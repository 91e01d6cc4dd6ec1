"""What the tests share: how calls are written and answers are taken apart, and how a call to a knotter is heard."""

import re
import unittest

from knotloom.desk import answers

GREATEST = 4294967295
COLOURS = "abcdefghijklmnopqrstuvwxyzABCDEFGHIJKLMNOPQRSTUVWXYZ0123456789"


def as_bytes(text):
    """The text's bytes; / stands for a byte 10, as in the document's run. A list stays as it is."""
    if isinstance(text, list):
        return text
    return [10 if sign == "/" else ord(sign) for sign in text]


def begin(text, *shares):
    t = as_bytes(text)
    return [0, len(t)] + t + [len(shares)] + list(shares)


def row(tries, tied):
    told = as_bytes(tied)
    return [1, tries, len(told)] + told


def unpick(k):
    return [2, k]


NOW = [3]
TIED = [4]
WOOL = [6]


def wrong(k):
    return [5, k]


def said(j):
    return [7, j]


def text_answer(text):
    """What tied and said answer: how many bytes, and they."""
    told = as_bytes(text)
    return [len(told)] + told


def wool_answer(**counts):
    """What wool answers, from the counts of the colours that are tied; a figure's colour is written as n0 to n9."""
    named = {name[-1]: count for name, count in counts.items()}
    return [0] + [named.get(colour, 0) for colour in COLOURS]


def heard(call):
    """The row that the call is heard as; ValueError if it is no call."""
    row, place = hear_items(call, 0)
    if place != len(call):
        raise ValueError(call)
    return row


def hear_items(call, place):
    row, place = hear_item(call, place)
    while call[place:place + 1] == " ":
        more, place = hear_item(call, place + 1)
        row += more
    return row, place


def hear_item(call, place):
    count = re.compile(r"([1-9][0-9]*)\*").match(call, place)
    if not count:
        if call[place:place + 1] not in list(COLOURS):
            raise ValueError(call)
        return call[place], place + 1
    times = int(count[1])
    if not 2 <= times <= 512:
        raise ValueError(call)
    if call[count.end():count.end() + 1] != "(":
        if call[count.end():count.end() + 1] not in list(COLOURS):
            raise ValueError(call)
        return call[count.end()] * times, count.end() + 1
    row, place = hear_items(call, count.end() + 1)
    group = call[count.end() + 1:place]
    if call[place:place + 1] != ")" or is_one_item(group):
        raise ValueError(call)
    return row * times, place + 1


def is_one_item(call):
    """Whether no blank of the call stands outside of its groups."""
    depth = 0
    for sign in call:
        depth += (sign == "(") - (sign == ")")
        if sign == " " and depth == 0:
            return False
    return True


def words(call):
    """A colour is 1, a count ahead of a colour 1 more, a group 2 more than its items."""
    return len(call.split(" ")) + call.count("*") + call.count("*(")


def ask(*calls):
    """The answers to these calls on one new loom, a list each."""
    flat = answers([number for call in calls for number in call])
    parts = []
    place = 0
    while place < len(flat):
        parts.append(flat[place + 1:place + 1 + flat[place]])
        place += 1 + flat[place]
    return parts


class LoomCase(unittest.TestCase):
    def check(self, *calls_and_answers):
        """Calls and the answer that each must get, pair by pair, on one new loom."""
        calls = [call for call, answer in calls_and_answers]
        self.assertEqual(ask(*calls), [answer for call, answer in calls_and_answers])

    def check_last(self, calls, answer):
        """The answer that the last of these calls must get."""
        self.assertEqual(ask(*calls)[-1], answer)
