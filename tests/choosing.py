"""Tests and moves chosen by chance."""

from walking import holds


def some_test(chance, n, reach):
    kind = chance.choice((0, 1, 2, 3))
    counter = chance.randrange(n)
    if kind == 2:
        return [kind, counter, chance.randrange(n), chance.randint(-reach, reach)]
    if kind == 3:
        m = chance.choice((2, 3, 4, 6))
        return [kind, counter, m, chance.randrange(m)]
    return [kind, counter, chance.randint(-reach, reach)]


def some_move(chance, n, most):
    """Rings, chains, and whatever else comes; every ring's sum is 0 now and then."""
    sources = list(range(n))
    shape = chance.randrange(4)
    if shape == 0:
        chance.shuffle(sources)
    elif shape == 1:
        sources = sources[1:] + sources[:1]
    elif shape == 2:
        sources = [chance.randrange(n) for counter in sources]
    numbers = [chance.randint(-most, most) for counter in sources]
    if chance.random() < 0.3:
        numbers = [0] * n
    elif chance.random() < 0.3:
        numbers[0] -= max(-99 + numbers[0], min(99 + numbers[0], sum(numbers)))
    move = [[1, source, number] for source, number in zip(sources, numbers)]
    if chance.random() < 0.3:
        move[chance.randrange(n)] = [0, chance.randint(-most, most)]
    return move


def tests_that_hold(chance, n, reach, begin):
    """Up to three tests, most of them such that hold at the beginning."""
    tests = []
    for place in range(chance.randrange(4)):
        test = some_test(chance, n, reach)
        for more in range(8):
            if holds(test, begin) or chance.random() < 0.05:
                break
            test = some_test(chance, n, reach)
        tests.append(test)
    return tests
