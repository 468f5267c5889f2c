"""Whole lists of calls: their form, and what they answer beside a plain second telling of the document."""

import itertools
import unittest

from strangetalk.desk import answers
from tests.lists import (
    APART, ASK, LARGEST, LEFT, MEANS, MISTAKEN, SAYS, SIZES, START, TALK, how_many_calls, mixed_talks,
)


class Telling:
    """The document told a second time: the readings are sought anew from all talks, whenever one is added."""

    def __init__(self):
        self.n = self.f = 0
        self.talks = []
        self.readings = []

    def seek(self):
        self.readings = []
        for reading in itertools.permutations(range(self.n)):
            mistaken = [talk for talk in self.talks if self.meant(reading, talk[0]) != talk[1]]
            if len(mistaken) <= self.f:
                self.readings.append(reading)

    def meant(self, reading, words):
        return sum(2 ** reading[word] for word in range(self.n) if words & 2 ** word)

    def start(self, n, f):
        if n not in (2, 3, 4, 5, 6) or f not in (0, 1, 2, 3):
            return [-22]
        self.n, self.f, self.talks = n, f, []
        self.seek()
        return [0]

    def talk(self, words, things):
        if words not in range(1, 2 ** self.n) or things not in range(2 ** self.n):
            return [-22]
        if len(self.talks) == 24:
            return [-28]
        self.talks.append((words, things))
        self.seek()
        return [len(self.readings)]

    def means(self, word):
        if word not in range(self.n):
            return [-22]
        if not self.readings:
            return [-61]
        things = {reading[word] for reading in self.readings}
        return [len(things), sum(2 ** thing for thing in things)]

    def says(self, words):
        if words not in range(2 ** self.n):
            return [-22]
        if not self.readings:
            return [-61]
        meant = [{reading[word] for word in range(self.n) if words & 2 ** word} for reading in self.readings]
        sure, possible = set.intersection(*meant), set.union(*meant)
        return [int(sure == possible), sum(2 ** thing for thing in sure), sum(2 ** thing for thing in possible)]

    def mistaken(self, talk):
        if talk not in range(len(self.talks)):
            return [-2]
        if not self.readings:
            return [-61]
        words, things = self.talks[talk]
        right = [self.meant(reading, words) == things for reading in self.readings]
        return [0 if all(right) else 1 if any(right) else 2]

    def apart(self, u, v):
        if u not in range(self.n) or v not in range(self.n):
            return [-22]
        return [len([words for words, things in self.talks if bool(words & 2 ** u) != bool(words & 2 ** v)])]

    def ask(self):
        if not self.readings:
            return [-61]
        for word in range(self.n):
            if len({reading[word] for reading in self.readings}) > 1:
                return [word]
        return [-2]

    def left(self):
        return [len(self.readings)]


def told(calls):
    telling = Telling()
    acts = {START: telling.start, TALK: telling.talk, MEANS: telling.means, SAYS: telling.says,
            MISTAKEN: telling.mistaken, APART: telling.apart, ASK: telling.ask, LEFT: telling.left}
    place = 0
    whole = []
    while place < len(calls):
        behind = place + 1 + SIZES[calls[place]]
        numbers = acts[calls[place]](*calls[place + 1:behind])
        whole += [len(numbers)] + numbers
        place = behind
    return whole


def questions(n):
    """Every word and every set of words, and one more of each."""
    calls = []
    for word in range(n + 1):
        calls += [MEANS, word]
    for words in range(2 ** n + 1):
        calls += [SAYS, words]
    return calls


def later_questions(n, talks):
    """Every talk and every two words, and one more of each; which word to ask for; how many readings are left."""
    calls = [ASK, LEFT]
    for talk in range(talks + 1):
        calls += [MISTAKEN, talk]
    for u in range(n + 1):
        for v in range(n + 1):
            calls += [APART, u, v]
    return calls


class BesideTheTelling(unittest.TestCase):
    def check(self, calls):
        self.assertLessEqual(how_many_calls(calls), 1000)
        self.assertEqual(answers(calls), told(calls))

    def test_each_single_talk(self):
        for n in (2, 3):
            for f in (0, 1):
                for words in range(2 ** n + 1):
                    for things in range(2 ** n + 1):
                        self.check([START, n, f, TALK, words, things] + questions(n) + later_questions(n, 1))

    def test_each_two_talks_of_two_words(self):
        sets = list(itertools.product(range(1, 4), range(4)))
        for f in range(3):
            for first, second in itertools.product(sets, sets):
                self.check([START, 2, f, TALK, *first, TALK, *second] + questions(2) + later_questions(2, 2))

    def test_questions_behind_each_talk(self):
        for n in range(2, 6):
            for f in range(4):
                calls = [START, n, f]
                talks = mixed_talks(n, 10 * n + f, 8, 3)
                for place in range(0, len(talks), 3):
                    calls += talks[place:place + 3] + questions(n) + later_questions(n, place // 3 + 1)
                self.check(calls)

    def test_one_session_started_again_and_again(self):
        calls = []
        for n, f in ((3, 1), (2, 0), (1, 1), (5, 2), (4, 4), (4, 3), (7, 0), (2, 3)):
            calls += [START, n, f]
            calls += mixed_talks(min(max(n, 2), 6), n + f, 9, 4) + questions(2) + later_questions(2, 9)
        self.check(calls)

    def test_a_thousand_calls(self):
        for f in range(4):
            calls = [START, 6, f]
            talks = mixed_talks(6, f + 1, 25, 7)
            asked = questions(6) * 2
            for place in range(0, len(talks), 3):
                calls += talks[place:place + 3] + asked[2 * place:2 * place + 28]
            while how_many_calls(calls) + 72 <= 1000:
                calls += questions(6)
            calls += [MEANS, 3] * (1000 - how_many_calls(calls))
            self.assertEqual(how_many_calls(calls), 1000)
            self.check(calls)

    def test_a_thousand_calls_with_all_readings_left(self):
        calls = [START, 6, 0] + [TALK, 63, 63] * 24 + questions(6) * 13
        calls += [SAYS, 21] * (1000 - how_many_calls(calls))
        self.assertEqual(how_many_calls(calls), 1000)
        self.check(calls)

    def test_a_thousand_calls_that_tell_of_talks(self):
        for f in range(4):
            calls = [START, 6, f]
            talks = mixed_talks(6, f + 1, 24, 7)
            for place in range(0, len(talks), 3):
                calls += talks[place:place + 3] + [MISTAKEN, place // 6, ASK, LEFT, APART, 0, place % 6]
            asked = later_questions(6, 24) + [MISTAKEN, LARGEST, APART, LARGEST, 0]
            while how_many_calls(calls + asked) <= 1000:
                calls += asked
            calls += [ASK] * (1000 - how_many_calls(calls))
            self.assertEqual(how_many_calls(calls), 1000)
            self.check(calls)

    def test_a_thousand_calls_that_tell_of_talks_with_all_readings_left(self):
        calls = [START, 6, 3] + [TALK, 63, 63] * 24 + later_questions(6, 24) * 12
        calls += [MISTAKEN, 23] * (1000 - how_many_calls(calls))
        self.assertEqual(how_many_calls(calls), 1000)
        self.check(calls)

    def test_a_thousand_starts(self):
        self.assertEqual(answers([START, 6, 3] * 1000), [1, 0] * 1000)


class Form(unittest.TestCase):
    calls = [START, 1, 0, START, 3, 0, TALK, 3, 5, MEANS, 0, MEANS, 3, SAYS, 1, SAYS, 3, SAYS, 8,
             MISTAKEN, 0, MISTAKEN, 1, APART, 0, 2, APART, 3, 0, ASK, LEFT,
             TALK, 0, 0, TALK, 3, 3, MEANS, 0, SAYS, 0,
             MISTAKEN, 1, MISTAKEN, 2, APART, 0, 2, APART, 0, 3, ASK, LEFT,
             START, 7, 0, LEFT, START, 2, 0, LEFT, MISTAKEN, 0, TALK, 1, 2, ASK, LEFT]

    def test_how_many_numbers_then_these_and_a_refusal_alone(self):
        self.assertEqual(answers(self.calls), [
            1, -22,
            1, 0,
            1, 2,
            2, 2, 5,
            1, -22,
            3, 0, 0, 5,
            3, 1, 5, 5,
            1, -22,
            1, 0,
            1, -2,
            1, 1,
            1, -22,
            1, 0,
            1, 2,
            1, -22,
            1, 0,
            1, -61,
            1, -61,
            1, -61,
            1, -2,
            1, 2,
            1, -22,
            1, -61,
            1, 0,
            1, -22,
            1, 0,
            1, 0,
            1, 2,
            1, -2,
            1, 1,
            1, -2,
            1, 1,
        ])

    def test_one_call_alone(self):
        self.assertEqual(answers([START, 2, 0]), [1, 0])

    def test_a_list_of_whole_numbers(self):
        whole = answers(list(self.calls))
        self.assertIs(type(whole), list)
        for number in whole:
            self.assertIs(type(number), int)

    def test_the_list_is_the_same_afterwards(self):
        calls = list(self.calls)
        whole = answers(calls)
        self.assertEqual(calls, self.calls)
        self.assertIsNot(whole, calls)

    def test_a_second_call_answers_the_same(self):
        calls = list(self.calls)
        self.assertEqual(answers(calls), answers(calls))

    def test_nothing_is_kept_from_one_list_to_the_next(self):
        first = answers([START, 2, 0] + [TALK, 1, 1] * 24 + [TALK, 1, 1])
        self.assertEqual(first[-2:], [1, -28])
        self.assertEqual(
            answers([START, 2, 4, START, 2, 0, MISTAKEN, 0, APART, 0, 1, ASK, LEFT, TALK, 3, 3, MEANS, 0]),
            [1, -22, 1, 0, 1, -2, 1, 0, 1, 0, 1, 2, 1, 2, 2, 2, 3])

    def test_what_is_given_back_is_new_each_time(self):
        first = answers([START, 2, 0])
        first.append(7)
        self.assertEqual(answers([START, 2, 0]), [1, 0])


if __name__ == "__main__":
    unittest.main()
