"""The desk: takes a list of calls on one new session and gives back their answers."""

from strangetalk.session import Session


def start(session, handed):
    return session.wl_start(handed[0], handed[1])


def talk(session, handed):
    return session.wl_talk(handed[0], handed[1])


def means(session, handed):
    return session.wl_means(handed[0])


def says(session, handed):
    return session.wl_says(handed[0])


def mistaken(session, handed):
    return session.wl_mistaken(handed[0])


def apart(session, handed):
    return session.wl_apart(handed[0], handed[1])


def ask(session, handed):
    return session.wl_ask()


def left(session, handed):
    return session.wl_left()


# For each call's number: what answers it, and how many numbers are handed in with it.
CALLS = {
    0: (start, 2),
    1: (talk, 2),
    2: (means, 1),
    3: (says, 1),
    4: (mistaken, 1),
    5: (apart, 2),
    6: (ask, 0),
    7: (left, 0),
}


def answers(calls):
    """For each call, in order, how many numbers are answered, then these."""
    session = Session()
    answered = []
    place = 0
    while place < len(calls):
        act, size = CALLS[calls[place]]
        numbers = act(session, calls[place + 1:place + 1 + size])
        answered.append(len(numbers))
        answered.extend(numbers)
        place += 1 + size
    return answered
