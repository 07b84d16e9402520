"""What the tests share: odd things, rows by the dozen, and looks at what was told."""

import copy
import itertools
import random

FAR = 10 ** 30


def odd_things():
    """Things that are no pair, row, cut, form or book, made anew for each caller."""
    deep = 7
    for turn in range(39):
        deep = [deep] if turn % 2 else (deep,)
    return [
        None, True, False, 0, 1, -1, 10 ** 59, "", "act", "(1, 2)", "a\nb", [], {}, [[]], {"act": 1}, deep,
        (None,), ("act",), (True,), (1,), (1, 2, 3), [1, 2], (1, "2"), (1, None), ((1, 2), [3, 4]), [(1, 2)],
        ((1, 2, 3),), ((1,),), (((1, 2),),), {1: (1, 2)}, ((), ()), ("", ""), ({}, []), (1, (2, 3)), ((1, 2), 3),
    ]


def small_rows():
    """All rows of at most three pairs with numbers of at most two."""
    pairs = list(itertools.product(range(3), repeat=2))
    return [row for many in range(4) for row in itertools.product(pairs, repeat=many)]


def chance_rows(count, seed, longest=12, greatest=9):
    """Rows of all lengths up to the longest, some with far numbers among them, the same with each run."""
    chance = random.Random(seed)
    rows = []
    for number in range(count):
        by = FAR if number % 10 == 9 else 1
        many = chance.randint(0, longest)
        rows.append(tuple((by * chance.randint(0, greatest), by * chance.randint(0, greatest)) for _ in range(many)))
    return rows


def is_told(thing):
    """Whether thing is made of tuples, whole numbers, texts, truths and None, to the last one within."""
    if thing.__class__ is tuple:
        return all(is_told(part) for part in thing)
    return thing is None or thing.__class__ in (int, str, bool)


def has_whole_numbers_only(thing):
    """Whether thing is made of tuples and whole numbers, no truth among them."""
    if thing.__class__ is tuple:
        return all(has_whole_numbers_only(part) for part in thing)
    return thing.__class__ is int


def spoiled(thing):
    """What comes of a told thing by one change: a kind, a number, a part left out, put in twice or exchanged."""
    yield None
    yield "text"
    if isinstance(thing, tuple):
        yield list(thing)
        yield thing + (None,)
        for at, part in enumerate(thing):
            yield thing[:at] + thing[at + 1:]
            yield thing[:at] + (part, part) + thing[at + 1:]
            for bad in spoiled(part):
                yield thing[:at] + (bad,) + thing[at + 1:]
        for at in range(1, len(thing)):
            if thing[at - 1] != thing[at]:
                yield thing[:at - 1] + (thing[at], thing[at - 1]) + thing[at + 1:]
    elif thing.__class__ is int:
        yield thing + 1
        yield thing - 1
        yield str(thing)
        if abs(thing) < 10 ** 15:
            yield float(thing)
        if thing in (0, 1):
            yield bool(thing)


def asked_twice(test, function, *things):
    """The answer to a question, that has to be the same twice, and has to leave alone what is handed in."""
    kept = copy.deepcopy(things)
    answer = function(*things)
    test.assertEqual(repr(things), repr(kept))
    test.assertEqual(repr(function(*things)), repr(answer))
    test.assertTrue(is_told(answer), answer)
    return answer


def chance_form(chance, longest=4, widest=3, by=1):
    """A form with at most so many pairs up and down, and gaps of at most the widest, all times by."""
    numbers = [by * chance.randint(0, widest)]
    for _ in range(4 * longest):
        numbers.append(numbers[-1] + by * chance.randint(1, widest))
    up = tuple(zip(numbers[::2], numbers[1::2]))[:chance.randint(0, longest)]
    shift = by * chance.randint(0, widest)
    down = tuple((more + shift, less + shift) for less, more in zip(numbers[::2], numbers[1::2]))
    down = down[:chance.randint(0, longest)][::-1]
    if chance.randint(0, 1):
        down = tuple((need + by, leave) for need, leave in down[:1]) + down[1:]
    edge = max([0] + [pair[1] for pair in up[-1:]] + [pair[0] for pair in down[:1]])
    return (up, edge + by * chance.randint(0, 2), down)


def chance_forms(count, seed, longest=4, widest=3):
    """Forms by chance, the same with each run, some of them with far numbers."""
    chance = random.Random(seed)
    return [chance_form(chance, longest, widest, FAR if number % 10 == 9 else 1) for number in range(count)]


def long_form(many, shift=0):
    """A form with so many pairs up and as many down: more than a row may have."""
    up = tuple((4 * k + shift, 4 * k + shift + 3) for k in range(many))
    down = tuple((4 * k + 2, 4 * k) for k in reversed(range(many)))
    return (up, 4 * many + shift + 1, down)
