"""What holds of all calls together: the document's four points under 'What holds'."""

import itertools
import unittest

from tests.lists import (
    APART, ASK, FACTORIALS, LEFT, MEANS, MISTAKEN, SAYS, START, TALK,
    answer_by_answer, behind, mixed_talks, scattered,
)

# What the words do mean, by how many there are.
TRUTHS = {2: [1, 0], 3: [1, 2, 0], 4: [2, 0, 3, 1], 5: [4, 2, 0, 1, 3], 6: [4, 2, 5, 0, 1, 3]}


def meant(truth, words):
    return sum(1 << thing for word, thing in enumerate(truth) if words >> word & 1)


def right_talks(truth, said):
    return [(words, meant(truth, words)) for words in said]


def with_mistaken(talks, places, wrong):
    """The talks, where those at the places point at things that differ by `wrong` from what they should."""
    return [(words, things ^ wrong if place in places else things) for place, (words, things) in enumerate(talks)]


def as_calls(n, f, talks):
    calls = [START, n, f]
    for words, things in talks:
        calls += [TALK, words, things]
    return calls


def said_by_codes(codes, times):
    """For each bit of the words' codes, the words that have it, so many times."""
    said = []
    for bit in range(max(codes).bit_length()):
        said += [sum(1 << word for word, code in enumerate(codes) if code >> bit & 1)] * times
    return said


def how_far_apart(calls, n):
    """In how many talks just one was said, for each two words."""
    pairs = itertools.combinations(range(n), 2)
    asked = [number for u, v in pairs for number in (APART, u, v)]
    return [answer[0] for answer in answer_by_answer(calls, asked)]


class Enough(unittest.TestCase):
    def test_as_few_talks_as_are_enough(self):
        for n, truth in TRUTHS.items():
            for f in range(4):
                talks = right_talks(truth, said_by_codes(range(n), 2 * f + 1))
                self.assertLessEqual(len(talks), 24)
                for start in range(3):
                    places = range(start, start + 7 * f, 7)[:f]
                    calls = as_calls(n, f, with_mistaken(talks, places, 0b11))
                    self.assertEqual(min(how_far_apart(calls, n)), 2 * f + 1)
                    self.assertEqual(behind(calls, [LEFT, ASK]), [1, 1, 1, -2], (n, f, start))
                    for word in range(n):
                        self.assertEqual(behind(calls, [MEANS, word]), [2, 1, 1 << truth[word]])

    def test_more_are_mistaken_than_may_be(self):
        for n, truth in TRUTHS.items():
            for f in range(4):
                talks = right_talks(truth, said_by_codes(range(n), 2 * f + 1))
                for wrong in (0b01, 0b11):
                    for many in range(f + 1, len(talks) + 1):
                        calls = as_calls(n, f, with_mistaken(talks, range(many), wrong))
                        self.assertLessEqual(behind(calls, [LEFT])[1], 1)

    def test_whatever_is_said(self):
        seen = 0
        for n in FACTORIALS:
            for f in range(4):
                for seed in range(12):
                    calls = [START, n, f] + mixed_talks(n, 100 * n + 10 * f + seed, 24, 5 + seed)
                    if min(how_far_apart(calls, n)) > 2 * f:
                        seen += 1
                        self.assertLessEqual(behind(calls, [LEFT])[1], 1)
        self.assertGreater(seen, 50)


class FewerIsNotEnough(unittest.TestCase):
    def check(self, n, f, calls):
        apart = how_far_apart(calls, n)
        # Words 0 and 1 come first.
        self.assertEqual(apart[0], 2 * f)
        self.assertEqual(all(other > 2 * f for other in apart[1:]), True)
        self.assertEqual(behind(calls, [LEFT, ASK, SAYS, 0b11]), [1, 2, 1, 0, 3, 1, 0b11, 0b11])
        for word in range(n):
            self.assertEqual(behind(calls, [MEANS, word]), [2, 2, 0b11] if word < 2 else [2, 1, 1 << word])

    def test_two_words(self):
        for f in range(4):
            calls = as_calls(2, f, [(0b01, 0b01)] * f + [(0b01, 0b10)] * f)
            self.check(2, f, calls)
            if f > 0:
                self.assertEqual(behind(calls, [MISTAKEN, 0, MISTAKEN, 2 * f - 1]), [1, 1] * 2)
            self.assertEqual(behind(calls, [TALK, 0b01, 0b10, LEFT, MEANS, 0]), [1, 1, 1, 1, 2, 1, 0b10])

    def test_two_among_more_words(self):
        for n, f in ((3, 1), (3, 2), (3, 3), (4, 1), (4, 2), (4, 3), (5, 1), (5, 2), (5, 3), (6, 1), (6, 2)):
            # Words 0 and 1 have the same code: no other talk tells one from the other.
            said = said_by_codes([0] + list(range(n - 1)), 2 * f + 1)
            talks = right_talks(range(n), said) + [(0b01, 0b01)] * f + [(0b01, 0b10)] * f
            self.assertLessEqual(len(talks), 24)
            calls = as_calls(n, f, talks)
            self.check(n, f, calls)
            self.assertEqual(behind(calls, [TALK, 0b10, 0b10, LEFT, MEANS, 0]), [1, 1, 1, 1, 2, 1, 0b01])


class TheTruthStays(unittest.TestCase):
    def check(self, n, f, truth, talks):
        """Behind each talk: what's sure is so, and what is so is among what may be."""
        for many in range(len(talks) + 1):
            calls = as_calls(n, f, talks[:many])
            self.assertGreaterEqual(behind(calls, [LEFT])[1], 1)
            asked = [number for word in range(n) for number in (MEANS, word)]
            for word, (count, things) in enumerate(answer_by_answer(calls, asked)):
                self.assertEqual(things >> truth[word] & 1, 1)
                self.assertEqual(count, bin(things).count("1"))
            asked = [number for words in range(2 ** n) for number in (SAYS, words)]
            for words, (same, sure, possible) in enumerate(answer_by_answer(calls, asked)):
                self.assertEqual(sure & ~meant(truth, words), 0)
                self.assertEqual(meant(truth, words) & ~possible, 0)
                if same == 1:
                    self.assertEqual(sure, meant(truth, words))
            asked = [number for talk in range(many) for number in (MISTAKEN, talk)]
            for talk, (answer,) in enumerate(answer_by_answer(calls, asked)):
                words, things = talks[talk]
                self.assertIn(answer, (1, 2) if things != meant(truth, words) else (0, 1))

    def test_none_is_mistaken(self):
        for n, truth in TRUTHS.items():
            for f in (0, 3):
                said = [number or 1 for number, place in zip(scattered(n, 2 ** n), range(8))]
                self.check(n, f, truth, right_talks(truth, said))

    def test_as_many_are_mistaken_as_may_be(self):
        for n, truth in TRUTHS.items():
            for f in range(1, 4):
                said = [number or 1 for number, place in zip(scattered(7 * n + f, 2 ** n), range(10))]
                talks = right_talks(truth, said)
                for start in range(3):
                    for wrong in (0b01, 0b11):
                        self.check(n, f, truth, with_mistaken(talks, range(start, start + 3 * f, 3), wrong))

    def test_the_mistaken_ones_are_found(self):
        for n, truth in TRUTHS.items():
            for f in range(1, 4):
                talks = right_talks(truth, said_by_codes(range(n), 2 * f + 1))
                places = [0, len(talks) // 2, len(talks) - 1][:f]
                calls = as_calls(n, f, with_mistaken(talks, places, 0b11))
                for place in range(len(talks)):
                    self.assertEqual(behind(calls, [MISTAKEN, place]), [1, 2 if place in places else 0])


class AllSureOneReading(unittest.TestCase):
    def check(self, n, calls):
        """Gives back how many readings are left, as wl_left tells it."""
        (left,), (ask,) = answer_by_answer(calls, [LEFT, ASK])
        asked = [number for word in range(n) for number in (MEANS, word)]
        told = answer_by_answer(calls, asked)
        if left == 0:
            self.assertEqual(ask, -61)
            self.assertEqual(told, [[-61]] * n)
        elif left == 1:
            self.assertEqual(ask, -2)
            self.assertEqual([answer[0] for answer in told], [1] * n)
        else:
            self.assertEqual(ask, [answer[0] > 1 for answer in told].index(True))
        return left

    def test_behind_each_talk(self):
        seen = {}
        for n in FACTORIALS:
            for f in range(4):
                for seed in range(4):
                    talks = mixed_talks(n, 50 * n + 10 * f + seed, 18, 4 + 3 * seed)
                    for end in range(0, len(talks) + 1, 3):
                        left = self.check(n, [START, n, f] + talks[:end])
                        seen[(f, min(left, 2))] = True
        # None left, one and more have come with each f.
        self.assertEqual(sorted(seen), sorted(itertools.product(range(4), range(3))))

    def test_all_words_are_sure(self):
        for n, truth in TRUTHS.items():
            for f in range(4):
                talks = right_talks(truth, [1 << word for word in range(n - 1)] * (f + 1))
                self.assertLessEqual(len(talks), 24)
                self.assertEqual(self.check(n, as_calls(n, f, talks)), 1)
                self.assertEqual(self.check(n, as_calls(n, f, talks[:-1])) > 1, True)


if __name__ == "__main__":
    unittest.main()
