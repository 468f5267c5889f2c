"""Lists of calls: the calls' numbers, and what several test files do with such lists."""

from strangetalk.desk import answers

START = 0
TALK = 1
MEANS = 2
SAYS = 3
MISTAKEN = 4
APART = 5
ASK = 6
LEFT = 7

# How many numbers are handed in with each call.
SIZES = {START: 2, TALK: 2, MEANS: 1, SAYS: 1, MISTAKEN: 1, APART: 2, ASK: 0, LEFT: 0}

LARGEST = 4294967295
FACTORIALS = {2: 2, 3: 6, 4: 24, 5: 120, 6: 720}


def behind(calls, more):
    """What `more` answers behind `calls`, without what `calls` answer."""
    return answers(calls + more)[len(answers(calls)):]


def answer_by_answer(calls, more):
    """What each call of `more` answers behind `calls`, one list each."""
    rest = behind(calls, more)
    each = []
    while rest:
        each.append(rest[1:1 + rest[0]])
        rest = rest[1 + rest[0]:]
    return each


def how_many_calls(calls):
    place = many = 0
    while place < len(calls):
        place += 1 + SIZES[calls[place]]
        many += 1
    return many


def scattered(seed, below):
    """Numbers with no plain order, the same each time."""
    while True:
        seed = (seed * 1103515245 + 12345) % 2 ** 31
        yield (seed >> 12) % below


def mixed_talks(n, seed, many, wrong_each):
    """Right talks by the reading that turns all words round by one; each `wrong_each`th points at anything."""
    numbers = scattered(seed, 2 ** n)
    calls = []
    for place in range(many):
        words = next(numbers) or 1
        things = (words << 1 | words >> (n - 1)) % 2 ** n
        if place % wrong_each == wrong_each - 1:
            things = next(numbers)
        calls += [TALK, words, things]
    return calls
