"""The promises, one class each, with answers worked out by hand."""

import unittest

from strangetalk.desk import answers
from tests.lists import (
    APART, ASK, FACTORIALS, LARGEST, LEFT, MEANS, MISTAKEN, SAYS, START, TALK, behind,
)


class Start(unittest.TestCase):
    def test_each_n_and_f_that_may_be(self):
        for n in range(2, 7):
            for f in range(4):
                self.assertEqual(answers([START, n, f]), [1, 0], (n, f))

    def test_n_that_may_not_be(self):
        for n in (0, 1, 7, 8, 32, LARGEST):
            for f in (0, 3, 4, LARGEST):
                self.assertEqual(answers([START, n, f]), [1, -22], (n, f))

    def test_f_that_may_not_be(self):
        for f in (4, 5, 6, LARGEST):
            for n in (2, 3, 6):
                self.assertEqual(answers([START, n, f]), [1, -22], (n, f))

    def test_n_comes_ahead_of_f(self):
        self.assertEqual(answers([START, 0, 2]), [1, -22])
        self.assertEqual(answers([START, 1, 3]), [1, -22])
        self.assertEqual(answers([START, 6, 0]), [1, 0])

    def test_so_many_words_and_things(self):
        for n, readings in FACTORIALS.items():
            every = 2 ** n - 1
            self.assertEqual(behind([START, n, 0], [MEANS, n - 1]), [2, n, every])
            self.assertEqual(behind([START, n, 0], [MEANS, n]), [1, -22])
            self.assertEqual(behind([START, n, 0], [SAYS, every]), [3, 1, every, every])
            self.assertEqual(behind([START, n, 0], [SAYS, every + 1]), [1, -22])
            self.assertEqual(behind([START, n, 0], [TALK, every, every]), [1, readings])

    def test_refused_ahead_of_the_first_good_one(self):
        self.assertEqual(
            answers([START, 1, 0, START, 7, 0, START, 2, 4, START, LARGEST, LARGEST, START, 2, 0, TALK, 1, 2]),
            [1, -22, 1, -22, 1, -22, 1, -22, 1, 0, 1, 1])

    def test_refused_behind_a_good_one_leaves_the_readings(self):
        good = [START, 3, 0, TALK, 0b001, 0b010]
        for refused in ([7, 0], [1, 0], [3, 4], [4, 4], [2, LARGEST], [LARGEST, 1]):
            calls = good + [START] + refused
            self.assertEqual(behind(good, [START] + refused), [1, -22])
            self.assertEqual(behind(calls, [MEANS, 0]), [2, 1, 0b010])
            self.assertEqual(behind(calls, [MEANS, 2]), [2, 2, 0b101])
            self.assertEqual(behind(calls, [MEANS, 3]), [1, -22])
            self.assertEqual(behind(calls, [SAYS, 0b110]), [3, 1, 0b101, 0b101])
            self.assertEqual(behind(calls, [SAYS, 0b1000]), [1, -22])

    def test_refused_behind_a_good_one_leaves_how_many_may_be_mistaken(self):
        good = [START, 3, 1, TALK, 0b001, 0b001]
        for refused in ([7, 0], [1, 3], [3, 4], [2, LARGEST]):
            calls = good + [START] + refused
            self.assertEqual(behind(calls, [TALK, 0b001, 0b001]), [1, 2])
            self.assertEqual(behind(calls, [TALK, 0b001, 0b010, MEANS, 2]), [1, 4, 2, 3, 0b111])

    def test_refused_behind_a_good_one_leaves_the_talks(self):
        good = [START, 2, 0] + [TALK, 0b11, 0b11] * 24
        for refused in ([7, 0], [2, 4]):
            self.assertEqual(behind(good, [START] + refused + [TALK, 0b11, 0b11]), [1, -22, 1, -28])

    def test_refused_behind_a_good_one_leaves_what_is_told_of_the_talks(self):
        good = [START, 3, 1, TALK, 0b001, 0b010, TALK, 0b001, 0b001, TALK, 0b001, 0b001, TALK, 0b110, 0b110]
        asked = [MISTAKEN, 0, MISTAKEN, 1, MISTAKEN, 3, MISTAKEN, 4,
                 APART, 0, 1, APART, 1, 2, APART, 0, 3, ASK, LEFT]
        told = [1, 2, 1, 0, 1, 0, 1, -2, 1, 4, 1, 0, 1, -22, 1, 1, 1, 2]
        self.assertEqual(behind(good, asked), told)
        for refused in ([7, 0], [1, 0], [3, 4], [2, LARGEST], [LARGEST, 1]):
            self.assertEqual(behind(good + [START] + refused, asked), told, refused)

    def test_refused_behind_a_good_one_leaves_that_no_reading_is_left(self):
        good = [START, 3, 0, TALK, 0b001, 0]
        asked = [MISTAKEN, 0, MISTAKEN, 1, APART, 0, 1, ASK, LEFT]
        told = [1, -61, 1, -2, 1, 1, 1, -61, 1, 0]
        self.assertEqual(behind(good, asked), told)
        for refused in ([7, 0], [1, 0], [3, 4]):
            self.assertEqual(behind(good + [START] + refused, asked), told, refused)

    def test_good_one_again_leaves_no_talk_to_tell_of(self):
        asked = [MISTAKEN, 0, MISTAKEN, 2, APART, 0, 1, APART, 1, 2, APART, 0, 3, ASK, LEFT]
        told = [1, -2, 1, -2, 1, 0, 1, 0, 1, -22, 1, 0, 1, 6]
        sure = [START, 3, 0, TALK, 0b001, 0b010, TALK, 0b010, 0b001, TALK, 0b011, 0b011]
        self.assertEqual(behind(sure, asked), [1, 0, 1, 0, 1, 2, 1, 2, 1, -22, 1, -2, 1, 1])
        none = [START, 4, 0] + [TALK, 0b001, 0] * 3
        self.assertEqual(behind(none, asked), [1, -61, 1, -61, 1, 3, 1, 0, 1, 3, 1, -61, 1, 0])
        for before in (sure, none):
            self.assertEqual(behind(before + [START, 3, 0], asked), told)

    def test_good_one_again_forgets_the_talks(self):
        before = [START, 2, 0] + [TALK, 0b01, 0b01, TALK, 0b01, 0b10] * 12
        self.assertEqual(behind(before, [SAYS, 0b01, TALK, 0b01, 0b01]), [1, -61, 1, -28])
        again = before + [START, 2, 0]
        self.assertEqual(behind(before, [START, 2, 0]), [1, 0])
        self.assertEqual(behind(again, [MEANS, 0]), [2, 2, 0b11])
        self.assertEqual(behind(again, [TALK, 0b11, 0b11] * 24), [1, 2] * 24)
        self.assertEqual(behind(again + [TALK, 0b11, 0b11] * 24, [TALK, 0b11, 0b11]), [1, -28])

    def test_good_one_again_takes_the_new_n_and_f(self):
        self.assertEqual(
            answers([START, 6, 0, START, 2, 1, MEANS, 2, MEANS, 1, TALK, 1, 1, TALK, 1, 1]),
            [1, 0, 1, 0, 1, -22, 2, 2, 0b11, 1, 2, 1, 1])
        self.assertEqual(
            answers([START, 2, 3, START, 6, 0, MEANS, 5, TALK, 1, 1]),
            [1, 0, 1, 0, 2, 6, 0b111111, 1, 120])

    def test_good_one_again_forgets_what_was_mistaken(self):
        calls = [START, 2, 1, TALK, 0b01, 0b01, START, 2, 1]
        self.assertEqual(behind(calls, [TALK, 0b01, 0b01]), [1, 2])


class Talk(unittest.TestCase):
    def test_how_many_readings_are_left(self):
        self.assertEqual(
            answers([START, 6, 0, TALK, 0b000111, 0b111000, TALK, 0b000001, 0b001000, TALK, 0b000010, 0b010000,
                     TALK, 0b011000, 0b000011, TALK, 0b001000, 0b000001]),
            [1, 0, 1, 36, 1, 12, 1, 6, 1, 2, 1, 1])

    def test_all_words_and_all_things_leave_all(self):
        for n, readings in FACTORIALS.items():
            every = 2 ** n - 1
            self.assertEqual(answers([START, n, 0, TALK, every, every]), [1, 0, 1, readings])

    def test_words_are_0(self):
        self.assertEqual(behind([START, 2, 0], [TALK, 0, 1]), [1, -22])
        self.assertEqual(behind([START, 2, 0], [TALK, 0, 0]), [1, -22])
        self.assertEqual(behind([START, 2, 3], [TALK, 0, 0]), [1, -22])

    def test_things_are_0(self):
        self.assertEqual(behind([START, 2, 0], [TALK, 1, 0]), [1, 0])
        self.assertEqual(behind([START, 3, 1], [TALK, 1, 0, TALK, 1, 0]), [1, 6, 1, 0])

    def test_a_word_that_there_is_not(self):
        for n in FACTORIALS:
            for words in (2 ** n, 2 ** n + 1, 2 ** (n + 1), 2 ** 31, LARGEST):
                self.assertEqual(behind([START, n, 1], [TALK, words, 1]), [1, -22], (n, words))

    def test_a_thing_that_there_is_not(self):
        for n in FACTORIALS:
            for things in (2 ** n, 2 ** n + 1, 2 ** (n + 1), 2 ** 31, LARGEST):
                self.assertEqual(behind([START, n, 1], [TALK, 1, things]), [1, -22], (n, things))

    def test_the_last_word_and_the_last_thing(self):
        for n, readings in FACTORIALS.items():
            last = 2 ** (n - 1)
            self.assertEqual(behind([START, n, 0], [TALK, last, last]), [1, readings // n])

    def test_a_refused_one_leaves_all_as_it_was(self):
        for refused in ([0, 1], [4, 1], [5, 1], [1, 4], [1, 6], [LARGEST, LARGEST]):
            calls = [START, 2, 0, TALK] + refused
            self.assertEqual(behind(calls, [MEANS, 0]), [2, 2, 0b11])
            self.assertEqual(behind(calls, [TALK, 0b11, 0b11] * 24), [1, 2] * 24)
            self.assertEqual(behind(calls + [TALK, 0b11, 0b11] * 24, [TALK, 0b11, 0b11]), [1, -28])

    def test_the_24th_and_the_25th(self):
        for n, readings in FACTORIALS.items():
            every = 2 ** n - 1
            calls = [START, n, 0] + [TALK, every, every] * 23
            self.assertEqual(behind(calls, [TALK, every, every]), [1, readings])
            self.assertEqual(behind(calls, [TALK, every, every, TALK, every, every]), [1, readings, 1, -28])
            self.assertEqual(behind(calls, [TALK, every, every] + [TALK, 1, 1] * 3), [1, readings] + [1, -28] * 3)

    def test_the_25th_leaves_all_as_it_was(self):
        calls = [START, 2, 0] + [TALK, 0b11, 0b11] * 24 + [TALK, 0b01, 0b01]
        self.assertEqual(behind(calls, [MEANS, 0]), [2, 2, 0b11])
        self.assertEqual(behind(calls, [SAYS, 0b01]), [3, 0, 0, 0b11])

    def test_the_25th_is_also_wrong_in_words_or_things(self):
        calls = [START, 2, 0] + [TALK, 0b11, 0b11] * 24
        for wrong in ([0, 1], [4, 1], [1, 4], [0, 0], [LARGEST, 1], [1, LARGEST]):
            self.assertEqual(behind(calls, [TALK] + wrong), [1, -22], wrong)

    def test_no_reading_is_left(self):
        calls = [START, 2, 0, TALK, 1, 1]
        self.assertEqual(behind(calls, [TALK, 1, 2, TALK, 1, 1, TALK, 1, 2]), [1, 0, 1, 0, 1, 0])

    def test_talks_count_when_no_reading_is_left(self):
        calls = [START, 2, 0] + [TALK, 1, 0] * 24
        self.assertEqual(answers(calls), [1, 0] + [1, 0] * 24)
        self.assertEqual(behind(calls, [TALK, 1, 1, TALK, 0, 1]), [1, -28, 1, -22])

    def test_fewer_or_more_things_than_words_are_mistaken(self):
        self.assertEqual(behind([START, 3, 0], [TALK, 0b011, 0b001]), [1, 0])
        self.assertEqual(behind([START, 3, 0], [TALK, 0b001, 0b011]), [1, 0])
        self.assertEqual(behind([START, 3, 1], [TALK, 0b001, 0b011]), [1, 6])

    def test_the_same_talk_again_counts_again(self):
        for f in range(4):
            calls = [START, 2, f] + [TALK, 1, 1] * (f + 2)
            self.assertEqual(answers(calls), [1, 0] + [1, 2] * f + [1, 1, 1, 1])

    def test_as_many_mistaken_as_may_be_and_one_more(self):
        for f in range(4):
            calls = [START, 3, f] + [TALK, 1, 0] * (f + 1)
            self.assertEqual(answers(calls), [1, 0] + [1, 6] * f + [1, 0])

    def test_a_mistaken_talk_among_right_ones(self):
        self.assertEqual(
            answers([START, 3, 1, TALK, 1, 1, TALK, 1, 1, TALK, 2, 4, TALK, 2, 2, TALK, 2, 2]),
            [1, 0, 1, 6, 1, 2, 1, 2, 1, 2, 1, 1])


class Means(unittest.TestCase):
    def test_by_some_reading(self):
        calls = [START, 3, 0, TALK, 0b011, 0b101]
        self.assertEqual(
            behind(calls, [MEANS, 0, MEANS, 1, MEANS, 2]), [2, 2, 0b101, 2, 2, 0b101, 2, 1, 0b010])

    def test_words_mean_things_and_not_the_other_way(self):
        calls = [START, 3, 0, TALK, 0b001, 0b010, TALK, 0b010, 0b100]
        self.assertEqual(
            behind(calls, [MEANS, 0, MEANS, 1, MEANS, 2]), [2, 1, 0b010, 2, 1, 0b100, 2, 1, 0b001])

    def test_a_word_that_there_is_not(self):
        for n in FACTORIALS:
            for word in (n, n + 1, 32, LARGEST):
                self.assertEqual(behind([START, n, 0], [MEANS, word]), [1, -22], (n, word))

    def test_no_reading(self):
        calls = [START, 3, 0, TALK, 1, 0]
        self.assertEqual(behind(calls, [MEANS, 0, MEANS, 1, MEANS, 2]), [1, -61] * 3)

    def test_no_such_word_is_told_ahead_of_no_reading(self):
        calls = [START, 3, 0, TALK, 1, 0]
        self.assertEqual(behind(calls, [MEANS, 3, MEANS, LARGEST]), [1, -22] * 2)

    def test_a_mistaken_talk_among_right_ones(self):
        # A talk that says 0 is thing 1, and then twice that it's thing 0: the first is the mistaken one.
        calls = [START, 3, 1, TALK, 1, 2]
        self.assertEqual(behind(calls, [MEANS, 0]), [2, 3, 0b111])
        self.assertEqual(behind(calls + [TALK, 1, 1], [MEANS, 0, MEANS, 1]), [2, 2, 0b011, 2, 3, 0b111])
        self.assertEqual(behind(calls + [TALK, 1, 1] * 2, [MEANS, 0, MEANS, 1]), [2, 1, 0b001, 2, 2, 0b110])

    def test_changes_nothing(self):
        calls = [START, 3, 0, TALK, 0b011, 0b101]
        self.assertEqual(behind(calls, [MEANS, 0, MEANS, 7, MEANS, 0, TALK, 0b001, 0b100]),
                         [2, 2, 0b101, 1, -22, 2, 2, 0b101, 1, 1])


class Says(unittest.TestCase):
    def test_not_the_same(self):
        calls = [START, 3, 0, TALK, 0b011, 0b101]
        self.assertEqual(behind(calls, [SAYS, 0b001]), [3, 0, 0, 0b101])
        self.assertEqual(behind(calls, [SAYS, 0b101]), [3, 0, 0b010, 0b111])
        self.assertEqual(behind(calls, [SAYS, 0b110]), [3, 0, 0b010, 0b111])

    def test_the_same(self):
        calls = [START, 3, 0, TALK, 0b011, 0b101]
        self.assertEqual(behind(calls, [SAYS, 0b011]), [3, 1, 0b101, 0b101])
        self.assertEqual(behind(calls, [SAYS, 0b100]), [3, 1, 0b010, 0b010])
        self.assertEqual(behind(calls, [SAYS, 0b111]), [3, 1, 0b111, 0b111])

    def test_words_are_0(self):
        for n in FACTORIALS:
            self.assertEqual(behind([START, n, 0], [SAYS, 0]), [3, 1, 0, 0])

    def test_ahead_of_any_talk(self):
        for n in FACTORIALS:
            every = 2 ** n - 1
            self.assertEqual(behind([START, n, 3], [SAYS, 1]), [3, 0, 0, every])
            self.assertEqual(behind([START, n, 3], [SAYS, every - 1]), [3, 0, 0, every])
            self.assertEqual(behind([START, n, 3], [SAYS, every]), [3, 1, every, every])

    def test_a_word_that_there_is_not(self):
        for n in FACTORIALS:
            for words in (2 ** n, 2 ** n + 1, 2 ** (n + 1), 2 ** 31, LARGEST):
                self.assertEqual(behind([START, n, 0], [SAYS, words]), [1, -22], (n, words))

    def test_no_reading(self):
        calls = [START, 3, 0, TALK, 1, 0]
        self.assertEqual(behind(calls, [SAYS, 0, SAYS, 1, SAYS, 7]), [1, -61] * 3)

    def test_no_such_word_is_told_ahead_of_no_reading(self):
        calls = [START, 3, 0, TALK, 1, 0]
        self.assertEqual(behind(calls, [SAYS, 8, SAYS, 9, SAYS, LARGEST]), [1, -22] * 3)

    def test_a_mistaken_talk_among_right_ones(self):
        calls = [START, 3, 1, TALK, 1, 2, TALK, 1, 1]
        self.assertEqual(behind(calls, [SAYS, 0b001, SAYS, 0b110]), [3, 0, 0, 0b011, 3, 0, 0b100, 0b111])
        calls += [TALK, 1, 1]
        self.assertEqual(behind(calls, [SAYS, 0b001, SAYS, 0b110]), [3, 1, 0b001, 0b001, 3, 1, 0b110, 0b110])

    def test_changes_nothing(self):
        calls = [START, 3, 0, TALK, 0b011, 0b101]
        self.assertEqual(behind(calls, [SAYS, 5, SAYS, 8, SAYS, 5, TALK, 0b001, 0b100]),
                         [3, 0, 0b010, 0b111, 1, -22, 3, 0, 0b010, 0b111, 1, 1])


class Mistaken(unittest.TestCase):
    # It's said that word 0 is thing 1, and then twice that it's thing 0: the first is the mistaken one.
    two = [START, 3, 1, TALK, 0b001, 0b010, TALK, 0b001, 0b001]
    three = two + [TALK, 0b001, 0b001]

    def test_by_none(self):
        self.assertEqual(behind(self.three, [MISTAKEN, 1, MISTAKEN, 2]), [1, 0, 1, 0])
        self.assertEqual(behind([START, 3, 0, TALK, 0b011, 0b101], [MISTAKEN, 0]), [1, 0])
        self.assertEqual(behind([START, 2, 3, TALK, 0b11, 0b11], [MISTAKEN, 0]), [1, 0])

    def test_by_some(self):
        self.assertEqual(behind(self.two, [MISTAKEN, 0, MISTAKEN, 1]), [1, 1, 1, 1])
        self.assertEqual(behind([START, 3, 1, TALK, 0b011, 0b101], [MISTAKEN, 0]), [1, 1])

    def test_by_each(self):
        self.assertEqual(behind(self.three, [MISTAKEN, 0]), [1, 2])
        self.assertEqual(behind([START, 3, 1, TALK, 0b001, 0], [MISTAKEN, 0]), [1, 2])
        self.assertEqual(behind([START, 3, 1, TALK, 0b011, 0b001], [MISTAKEN, 0]), [1, 2])
        self.assertEqual(behind([START, 3, 1, TALK, 0b001, 0b011], [MISTAKEN, 0]), [1, 2])

    def test_by_one_of_two(self):
        calls = [START, 2, 1, TALK, 0b01, 0b01, TALK, 0b01, 0b10]
        self.assertEqual(behind(calls, [LEFT, MISTAKEN, 0, MISTAKEN, 1]), [1, 2, 1, 1, 1, 1])

    def test_by_few_and_by_many(self):
        # All 24 readings are left; by 6 of them the first is right, by 4 the second.
        calls = [START, 4, 3, TALK, 0b0001, 0b0001, TALK, 0b0011, 0b0011]
        self.assertEqual(behind(calls, [LEFT, MISTAKEN, 0, MISTAKEN, 1]), [1, 24, 1, 1, 1, 1])

    def test_one_reading_alone_is_left(self):
        calls = [START, 2, 1] + [TALK, 0b01, 0b10] * 2 + [TALK, 0b10, 0b10]
        self.assertEqual(behind(calls, [LEFT, MISTAKEN, 0, MISTAKEN, 1, MISTAKEN, 2]), [1, 1, 1, 0, 1, 0, 1, 2])

    def test_told_anew_behind_each_talk(self):
        self.assertEqual(
            behind([START, 3, 1], [TALK, 1, 2, MISTAKEN, 0, TALK, 1, 1, MISTAKEN, 0, TALK, 1, 1, MISTAKEN, 0]),
            [1, 6, 1, 1, 1, 4, 1, 1, 1, 2, 1, 2])

    def test_no_talks_yet(self):
        for n in FACTORIALS:
            self.assertEqual(behind([START, n, 3], [MISTAKEN, 0, MISTAKEN, 1, MISTAKEN, LARGEST]), [1, -2] * 3)

    def test_a_talk_that_there_is_not(self):
        for many in range(1, 25):
            calls = [START, 2, 0] + [TALK, 0b11, 0b11] * many
            self.assertEqual(behind(calls, [MISTAKEN, many - 1]), [1, 0])
            for talk in (many, many + 1, 32, LARGEST):
                self.assertEqual(behind(calls, [MISTAKEN, talk]), [1, -2], (many, talk))

    def test_a_refused_talk_is_none(self):
        for refused in ([0, 1], [4, 1], [1, 4], [LARGEST, LARGEST]):
            self.assertEqual(behind([START, 2, 0, TALK] + refused, [MISTAKEN, 0]), [1, -2])
        calls = [START, 2, 1] + [TALK, 0b11, 0b11] * 24 + [TALK, 0b11, 0b11]
        self.assertEqual(behind(calls, [MISTAKEN, 23, MISTAKEN, 24]), [1, 0, 1, -2])

    def test_no_reading(self):
        calls = [START, 3, 0, TALK, 0b001, 0b001, TALK, 0b001, 0b010, TALK, 0b111, 0b111]
        self.assertEqual(behind(calls, [MISTAKEN, 0, MISTAKEN, 1, MISTAKEN, 2]), [1, -61] * 3)

    def test_no_such_talk_is_told_ahead_of_no_reading(self):
        calls = [START, 3, 0, TALK, 0b001, 0b001, TALK, 0b001, 0b010]
        self.assertEqual(behind(calls, [MISTAKEN, 2, MISTAKEN, 3, MISTAKEN, LARGEST]), [1, -2] * 3)

    def test_changes_nothing(self):
        self.assertEqual(
            behind(self.two, [MISTAKEN, 0, MISTAKEN, 2, MISTAKEN, 0, LEFT, TALK, 0b001, 0b001, MISTAKEN, 2]),
            [1, 1, 1, -2, 1, 1, 1, 4, 1, 2, 1, 0])


class Apart(unittest.TestCase):
    calls = [START, 3, 3, TALK, 0b011, 0b011, TALK, 0b001, 0b001, TALK, 0b100, 0b100, TALK, 0b111, 0b111]

    def test_just_one_of_the_two(self):
        self.assertEqual(behind(self.calls, [APART, 0, 1, APART, 0, 2, APART, 1, 2]), [1, 1, 1, 3, 1, 2])

    def test_the_other_way_round(self):
        self.assertEqual(behind(self.calls, [APART, 1, 0, APART, 2, 0, APART, 2, 1]), [1, 1, 1, 3, 1, 2])

    def test_both_or_neither(self):
        both = [START, 4, 0] + [TALK, 0b1011, 0b1011] * 3
        self.assertEqual(behind(both, [APART, 0, 1, APART, 1, 3, APART, 0, 3]), [1, 0] * 3)
        neither = [START, 4, 0] + [TALK, 0b1000, 0b1000] * 3
        self.assertEqual(behind(neither, [APART, 0, 1, APART, 1, 2, APART, 0, 2]), [1, 0] * 3)

    def test_the_same_word(self):
        self.assertEqual(behind(self.calls, [APART, 0, 0, APART, 1, 1, APART, 2, 2]), [1, 0] * 3)

    def test_ahead_of_any_talk(self):
        for n in FACTORIALS:
            self.assertEqual(behind([START, n, 3], [APART, 0, n - 1, APART, n - 1, 0]), [1, 0] * 2)

    def test_all_24_talks(self):
        for n in FACTORIALS:
            calls = [START, n, 0] + [TALK, 1, 1] * 24
            self.assertEqual(behind(calls, [APART, 0, n - 1, APART, n - 1, 0]), [1, 24] * 2)
            self.assertEqual(behind(calls + [TALK, 1, 1], [APART, 0, n - 1]), [1, 24])

    def test_things_do_not_matter(self):
        for things in range(8):
            self.assertEqual(behind([START, 3, 3, TALK, 0b001, things], [APART, 0, 1, APART, 1, 2]), [1, 1, 1, 0])

    def test_a_refused_talk_does_not_count(self):
        for refused in ([9, 1], [1, 8], [LARGEST, 1]):
            self.assertEqual(behind([START, 3, 0, TALK] + refused, [APART, 0, 1]), [1, 0])

    def test_a_word_that_there_is_not(self):
        for n in FACTORIALS:
            for calls in ([START, n, 1], [START, n, 1, TALK, 1, 1]):
                for word in (n, n + 1, 31, 32, LARGEST):
                    self.assertEqual(behind(calls, [APART, word, 0]), [1, -22], (n, word))
                    self.assertEqual(behind(calls, [APART, n - 1, word]), [1, -22], (n, word))
                    self.assertEqual(behind(calls, [APART, word, word]), [1, -22], (n, word))

    def test_no_reading_is_left(self):
        calls = [START, 3, 0, TALK, 0b001, 0, TALK, 0b011, 0b001]
        self.assertEqual(
            behind(calls, [LEFT, APART, 0, 1, APART, 0, 2, APART, 1, 1, APART, 3, 0, APART, 0, LARGEST]),
            [1, 0, 1, 1, 1, 2, 1, 0, 1, -22, 1, -22])

    def test_talks_count_when_no_reading_is_left(self):
        calls = [START, 3, 0, TALK, 0b001, 0] + [TALK, 0b010, 0b010] * 2
        self.assertEqual(behind(calls, [APART, 0, 1, APART, 0, 2, APART, 1, 2]), [1, 3, 1, 1, 1, 2])

    def test_changes_nothing(self):
        self.assertEqual(
            behind(self.calls, [APART, 0, 2, APART, 3, 0, APART, 0, 2, LEFT, TALK, 0b010, 0b010, APART, 0, 2]),
            [1, 3, 1, -22, 1, 3, 1, 6, 1, 4, 1, 3])


class Ask(unittest.TestCase):
    def test_ahead_of_any_talk(self):
        for n in FACTORIALS:
            for f in range(4):
                self.assertEqual(behind([START, n, f], [ASK]), [1, 0])

    def test_the_first_of_several(self):
        calls = [START, 4, 0, TALK, 0b0010, 0b0001]
        self.assertEqual(behind(calls, [ASK]), [1, 0])
        self.assertEqual(behind(calls + [TALK, 0b1000, 0b0010], [ASK]), [1, 0])

    def test_not_word_0(self):
        calls = [START, 6, 0, TALK, 0b000001, 0b100000]
        self.assertEqual(behind(calls, [ASK]), [1, 1])
        self.assertEqual(behind(calls + [TALK, 0b001000, 0b000001], [ASK]), [1, 1])
        calls += [TALK, 0b000010, 0b010000]
        self.assertEqual(behind(calls, [ASK]), [1, 2])
        self.assertEqual(behind(calls + [TALK, 0b000100, 0b000010], [ASK]), [1, 3])

    def test_the_last_but_one(self):
        for n in FACTORIALS:
            calls = [START, n, 0]
            for word in range(n - 2):
                calls += [TALK, 1 << word, 1 << word]
            self.assertEqual(behind(calls, [ASK, LEFT]), [1, n - 2, 1, 2])

    def test_behind_each_talk(self):
        self.assertEqual(
            behind([START, 3, 0], [ASK, TALK, 0b110, 0b101, ASK, TALK, 0b011, 0b110, ASK]),
            [1, 0, 1, 2, 1, 1, 1, 1, 1, -2])

    def test_no_word_may(self):
        for n in FACTORIALS:
            calls = [START, n, 0]
            for word in range(n - 1):
                calls += [TALK, 1 << word, 2 << word]
            self.assertEqual(behind(calls, [ASK, LEFT]), [1, -2, 1, 1])

    def test_some_talks_may_be_mistaken(self):
        calls = [START, 3, 1, TALK, 0b001, 0b010]
        self.assertEqual(behind(calls, [ASK]), [1, 0])
        calls += [TALK, 0b001, 0b010]
        self.assertEqual(behind(calls, [ASK]), [1, 1])
        calls += [TALK, 0b010, 0b001]
        self.assertEqual(behind(calls, [ASK]), [1, 1])
        self.assertEqual(behind(calls + [TALK, 0b010, 0b001], [ASK]), [1, -2])

    def test_no_reading(self):
        for n in FACTORIALS:
            for f in range(4):
                calls = [START, n, f] + [TALK, 1, 0] * f
                self.assertEqual(behind(calls, [ASK, TALK, 1, 0, ASK]), [1, 0, 1, 0, 1, -61])

    def test_no_reading_behind_a_single_one(self):
        calls = [START, 2, 0, TALK, 0b01, 0b10]
        self.assertEqual(behind(calls, [ASK, TALK, 0b01, 0b01, ASK]), [1, -2, 1, 0, 1, -61])

    def test_changes_nothing(self):
        calls = [START, 3, 0, TALK, 0b001, 0b010]
        self.assertEqual(behind(calls, [ASK, ASK, LEFT, TALK, 0b010, 0b001, ASK, ASK, LEFT]),
                         [1, 1, 1, 1, 1, 2, 1, 1, 1, -2, 1, -2, 1, 1])


class Left(unittest.TestCase):
    def test_ahead_of_any_talk(self):
        for n, readings in FACTORIALS.items():
            for f in range(4):
                self.assertEqual(behind([START, n, f], [LEFT]), [1, readings])

    def test_behind_talks(self):
        self.assertEqual(
            behind([START, 6, 0], [TALK, 0b000111, 0b111000, LEFT, TALK, 0b000001, 0b001000, LEFT,
                                   TALK, 0b000010, 0b010000, LEFT, TALK, 0b011000, 0b000011, LEFT]),
            [1, 36] * 2 + [1, 12] * 2 + [1, 6] * 2 + [1, 2] * 2)
        self.assertEqual(
            behind([START, 3, 1], [TALK, 0b001, 0b010, LEFT, TALK, 0b001, 0b001, LEFT, TALK, 0b001, 0b001, LEFT]),
            [1, 6] * 2 + [1, 4] * 2 + [1, 2] * 2)

    def test_behind_refused_talks(self):
        calls = [START, 3, 0, TALK, 0b001, 0b010]
        self.assertEqual(behind(calls, [TALK, 0, 1, LEFT, TALK, 8, 1, LEFT, TALK, 1, 8, LEFT]), [1, -22, 1, 2] * 3)
        calls = [START, 3, 0] + [TALK, 0b111, 0b111] * 24
        self.assertEqual(behind(calls, [LEFT, TALK, 0b001, 0b001, LEFT]), [1, 6, 1, -28, 1, 6])

    def test_no_reading(self):
        for n in FACTORIALS:
            for f in range(4):
                calls = [START, n, f] + [TALK, 1, 0] * (f + 1)
                self.assertEqual(behind(calls, [LEFT, LEFT, TALK, 1, 1, LEFT]), [1, 0] * 4)

    def test_changes_nothing(self):
        calls = [START, 3, 0, TALK, 0b001, 0b010]
        self.assertEqual(behind(calls, [LEFT, LEFT, MISTAKEN, 0, TALK, 0b010, 0b001, LEFT]),
                         [1, 2, 1, 2, 1, 0, 1, 1, 1, 1])


if __name__ == "__main__":
    unittest.main()
