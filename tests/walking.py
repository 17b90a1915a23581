"""What the document says, done plainly: round by round, with no leap.

A test here is a list of its numbers, a move a list of what each counter is given, as numbers too.
"""

LIMIT = 10 ** 12


def holds(test, state):
    if test[0] == 0:
        return state[test[1]] <= test[2]
    if test[0] == 1:
        return state[test[1]] >= test[2]
    if test[0] == 2:
        return state[test[1]] <= state[test[2]] + test[3]
    return (state[test[1]] - test[3]) % test[2] == 0


def all_hold(tests, state):
    return all(holds(test, state) for test in tests)


def is_beyond(state):
    return any(value > LIMIT or value < -LIMIT for value in state)


def moved(move, state):
    return tuple(gift[1] if gift[0] == 0 else state[gift[1]] + gift[2] for gift in move)


def branch_numbers(tests, move):
    return [len(tests)] + [number for part in tests + move for number in part]


def walk(tests, move, begin, most):
    """How the loop ends (0, 1, 2) and its states up to there, or up to the first one that comes again.

    None stands for how, if the loop hasn't told within this many rounds.
    """
    states = [tuple(begin)]
    seen = set()
    while len(states) <= most:
        state = states[-1]
        if is_beyond(state):
            return 1, states
        if not all_hold(tests, state):
            return 0, states
        if state in seen:
            return 2, states[:-1]
        seen.add(state)
        states.append(moved(move, state))
    return None, states


def both(early, late):
    """The move that does as much as one move and then another one."""
    done = []
    for gift in late:
        if gift[0] == 0:
            done.append(gift)
            continue
        before = early[gift[1]]
        done.append([*before[:-1], before[-1] + gift[2]])
    return done


def state_after(move, begin, n):
    """The values after n rounds, by moves doubled again and again."""
    state = tuple(begin)
    power = move
    while n:
        if n % 2:
            state = moved(power, state)
        power = both(power, power)
        n //= 2
    return state


def stretch(move, begin, start, count):
    """The states after this many rounds, and after each of the next ones."""
    states = [state_after(move, begin, start)]
    while len(states) < count:
        states.append(moved(move, states[-1]))
    return states


def first_failing(holds_at, most):
    """The least k from 0 to most for which it doesn't hold, if it never holds again from there on; else None."""
    if holds_at(most):
        return None
    low, high = -1, most
    while high - low > 1:
        middle = (low + high) // 2
        if holds_at(middle):
            low = middle
        else:
            high = middle
    return high


def far_end(tests, move, begin):
    """How the loop ends, and after how many rounds, if it hasn't within some hundred rounds.

    Every 12 rounds change a value by the same amount, once all of at most 4 counters have drawn from one another; and
    remainders that have been right through 12 times 12 rounds stay so.
    """
    tests = [test for test in tests if test[0] != 3]
    found = []
    states = stretch(move, begin, 4, 24)
    for place in range(12):
        change = [late - early for early, late in zip(states[place], states[place + 12])]

        def goes_on(k):
            state = [value + k * by for value, by in zip(states[place], change)]
            return all_hold(tests, state) and not is_beyond(state)

        k = first_failing(goes_on, 10 * LIMIT)
        if k is not None:
            found.append(4 + place + 12 * k)
    if not found:
        return 2, 0
    end = min(found)
    return (1 if is_beyond(state_after(move, begin, end)) else 0), end


def ending(tests, move, begin):
    """How the loop ends (0, 1, 2), and after how many rounds (0, if never)."""
    how, states = walk(tests, move, begin, 300)
    if how is None:
        return far_end(tests, move, begin)
    return how, (0 if how == 2 else len(states) - 1)
