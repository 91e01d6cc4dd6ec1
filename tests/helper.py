"""What the tests share: how calls are written and answers are taken apart."""

import unittest

from knotloom.desk import answers

GREATEST = 4294967295


def as_bytes(text):
    """The text's bytes; / stands for a byte 10, as in the document's run. A list stays as it is."""
    if isinstance(text, list):
        return text
    return [10 if sign == "/" else ord(sign) for sign in text]


def begin(text, *shares):
    t = as_bytes(text)
    return [0, len(t)] + t + [len(shares)] + list(shares)


def row(tries, tied):
    told = as_bytes(tied)
    return [1, tries, len(told)] + told


def unpick(k):
    return [2, k]


NOW = [3]


def ask(*calls):
    """The answers to these calls on one new loom, a list each."""
    flat = answers([number for call in calls for number in call])
    parts = []
    place = 0
    while place < len(flat):
        parts.append(flat[place + 1:place + 1 + flat[place]])
        place += 1 + flat[place]
    return parts


class LoomCase(unittest.TestCase):
    def check(self, *calls_and_answers):
        """Calls and the answer that each must get, pair by pair, on one new loom."""
        calls = [call for call, answer in calls_and_answers]
        self.assertEqual(ask(*calls), [answer for call, answer in calls_and_answers])

    def check_last(self, calls, answer):
        """The answer that the last of these calls must get."""
        self.assertEqual(ask(*calls)[-1], answer)
