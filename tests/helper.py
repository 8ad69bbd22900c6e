"""The calls as lists of numbers, and the answers read back from the list that is given."""

from ferryways.net import answers

TOP = 18446744073709551615


def begin(n):
    return [0, n]


def arc(a, b, length):
    return [1, a, b, length]


def cut(a, b):
    return [2, a, b]


def close(v, c=1):
    return [3, v, c]


def length_of(a, b):
    return [4, a, b]


def dist(s, t):
    return [5, s, t]


def way(*row):
    return [6, len(row), *row]


def search(s, t):
    return [7, s, t]


def joined(calls):
    return [number for call in calls for number in call]


def ask(*calls):
    """The first number of each call's answer; the form of all that is given back is looked at too."""
    given = answers(joined(calls))
    if any(type(number) is not int for number in given):
        raise AssertionError(f"not whole numbers alone: {given}")
    if len(given) != 4 * len(calls):
        raise AssertionError(f"{len(calls)} calls, but given back is {given}")
    for place in range(0, len(given), 4):
        if given[place] != 3 or given[place + 2:place + 4] != [0, 0]:
            raise AssertionError(f"not in the form told, at {place}: {given}")
    return given[1::4]


def last(*calls):
    return ask(*calls)[-1]


def some_numbers(seed):
    """An endless row of numbers below 2 to the 16, the same each time for one seed."""
    state = seed
    while True:
        state = (state * 6364136223846793005 + 1442695040888963407) % 2 ** 64
        yield state >> 48
