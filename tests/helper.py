"""The calls as lists of numbers, the answers read back, and plain reckonings of the document's words."""

import functools
import itertools

from ferryways.net import answers

TOP = 18446744073709551615


def begin(n):
    return [0, n]


def arc(a, b, length):
    return [1, a, b, length]


def cut(a, b):
    return [2, a, b]


def close(v, c=1):
    return [3, v, c]


def length_of(a, b):
    return [4, a, b]


def dist(s, t):
    return [5, s, t]


def way(*row):
    return [6, len(row), *row]


def search(s, t):
    return [7, s, t]


def next_way():
    return [8]


def told():
    return [9]


def nth(s, t, k):
    return [10, s, t, k]


def ways(s, t):
    return [11, s, t]


def place(*row):
    return [12, len(row), *row]


def over(s, t, a, b):
    return [13, s, t, a, b]


def apart(s, t):
    return [14, s, t]


def net():
    return [15]


def joined(calls):
    return [number for call in calls for number in call]


def read(given):
    """Each call's number, then what it tells further; the form of all that is given back is looked at too."""
    if type(given) is not list or any(type(number) is not int for number in given):
        raise AssertionError(f"not a list of whole numbers alone: {given}")
    found = []
    first = 0
    while first < len(given):
        many = given[first]
        answer = given[first + 1:first + 1 + many]
        if many < 3 or len(answer) != many or answer[1] != 0 or answer[2] != many - 3:
            raise AssertionError(f"not in the form told, at {first}: {given}")
        if answer[0] < 0 and many != 3:
            raise AssertionError(f"a refusal that tells more, at {first}: {given}")
        found.append([answer[0], *answer[3:]])
        first += 1 + many
    return found


def ask(*calls):
    """What each call answers: its number, or, where it tells further numbers, a list of all."""
    found = read(answers(joined(calls)))
    if len(found) != len(calls):
        raise AssertionError(f"{len(calls)} calls, but {len(found)} answers: {found}")
    return [answer[0] if len(answer) == 1 else answer for answer in found]


def ask_of(laid, asked):
    """What the calls asked answer behind those laid, in as many lists of at most a hundred calls as it takes."""
    many = 100 - len(laid)
    found = []
    for first in range(0, len(asked), many):
        found.extend(ask(*laid, *asked[first:first + many])[len(laid):])
    return found


def last(*calls):
    return ask(*calls)[-1]


def some_numbers(seed):
    """An endless row of numbers below 2 to the 16, the same each time for one seed."""
    state = seed
    while True:
        state = (state * 6364136223846793005 + 1442695040888963407) % 2 ** 64
        yield state >> 48


def some_net(n, seed, most_length, of_eight):
    """Arcs, about of_eight of eight there can be, and closed nodes, about one of eight."""
    numbers = some_numbers(seed)
    arcs = {}
    for a, b in itertools.permutations(range(n), 2):
        if next(numbers) // 8192 < of_eight:
            arcs[(a, b)] = next(numbers) % (most_length + 1)
    closed = [v for v in range(n) if next(numbers) // 8192 == 0]
    return arcs, closed


def full_net(n, seed, most_length):
    return some_net(n, seed, most_length, 8)[0]


def made(n, arcs, closed=()):
    return [begin(n)] + [arc(a, b, arcs[(a, b)]) for a, b in arcs] + [close(v) for v in closed]


def pairs_of(n):
    return list(itertools.product(range(n), repeat=2))


def steps_of(row):
    return list(zip(row, row[1:]))


@functools.lru_cache(maxsize=None)
def rows_between(n, s, t):
    """Every row of nodes, none twice, from s to t."""
    if s == t:
        return [(s,)]
    others = [v for v in range(n) if v not in (s, t)]
    return [
        (s, *middle, t) for many in range(len(others) + 1) for middle in itertools.permutations(others, many)
    ]


def length_by_the_words(arcs, closed, row):
    """The length of a row as the words tell it, or -2."""
    if any(v in closed for v in row) or any(step not in arcs for step in steps_of(row)):
        return -2
    return sum(arcs[step] for step in steps_of(row))


def ways_by_the_words(n, arcs, closed, s, t):
    """All ways from s to t in the order of ways, each as next tells it."""
    found = []
    for row in rows_between(n, s, t):
        length = length_by_the_words(arcs, closed, row)
        if length >= 0:
            found.append((length, row))
    return [[len(row), length, *row] for length, row in sorted(found)]


def parting_by_the_words(rows):
    """The first least of the arcs of which each row goes over one: the fewer tried first, then the earlier."""
    arcs = sorted({step for row in rows for step in steps_of(row)})
    bits = {step: 1 << place for place, step in enumerate(arcs)}
    masks = [sum(bits[step] for step in steps_of(row)) for row in rows]
    for many in range(len(arcs) + 1):
        for chosen in itertools.combinations(arcs, many):
            parting = sum(bits[step] for step in chosen)
            if all(mask & parting for mask in masks):
                return list(chosen)
    raise AssertionError("a way without an arc can't be parted")


def can_go_apart(rows, many):
    """Whether there are so many rows of which no two have an arc in common."""
    if many == 0:
        return True
    for place, row in enumerate(rows):
        taken = set(steps_of(row))
        rest = [other for other in rows[place + 1:] if not taken & set(steps_of(other))]
        if can_go_apart(rest, many - 1):
            return True
    return False


def most_apart_by_the_words(rows):
    many = 0
    while can_go_apart(rows, many + 1):
        many += 1
    return many
