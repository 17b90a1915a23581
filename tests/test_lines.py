"""Whole lines of up to 20 calls, in any order, held against a model that walks plainly."""

import random
import unittest

import asking
from asking import ask
from choosing import some_move, some_test, tests_that_hold
from modelling import Model
from walking import branch_numbers

HUGE = 10 ** 18
FAR = 10 ** 12
CHANGING = ("loop", "values", "leap", "jump")
WITH_LISTS = ("values", "first", "last", "times")


def encoded(call):
    """The call as the interface hands it in."""
    name, given = call[0], call[1:]
    if name == "loop":
        given = (given[0], *given[1])
    elif name in WITH_LISTS:
        given = given[0]
    return getattr(asking, name)(*given)


def spoilt(chance, numbers):
    """The numbers with one left out, put in or changed; at times still as right as before."""
    numbers = list(numbers)
    way = chance.randrange(3)
    place = chance.randrange(len(numbers))
    if way == 0:
        del numbers[place]
    elif way == 1:
        numbers.insert(place, chance.choice((0, 1, 2, -1, 100)))
    else:
        numbers[place] = chance.choice((0, 1, 2, 3, 4, 5, 6, -1, 99, 100, -99, -100, 10 ** 6, -10 ** 6, HUGE, -HUGE))
    return numbers


class Chooser:
    """Calls chosen by chance, with an eye to what the model holds."""

    def __init__(self, chance, model):
        self.chance = chance
        self.model = model

    def some_call(self):
        name = self.chance.choice(("loop", "values", "values", "rounds", "at", "first", "last", "times", "extremes",
                                   "starts", "leap", "jump", "jump", "plain", "told"))
        return (name, *getattr(self, name)())

    def loop(self):
        n = self.chance.randint(1, 4)
        reach = self.chance.choice((6, 30, 200, 999999))
        begin = [0] * n
        tests = tests_that_hold(self.chance, n, reach, begin)
        branch = branch_numbers(tests, some_move(self.chance, n, self.chance.choice((1, 2, 9, 99))))
        if self.chance.random() < 0.25:
            branch = spoilt(self.chance, branch)
        if self.chance.random() < 0.1:
            n = self.chance.choice((0, n - 1, n + 1, 5, -1, HUGE))
        return n, tuple(branch)

    def values(self):
        reach = self.chance.choice((3, 30, 200, 10 ** 6))
        row = [self.chance.randint(-reach, reach) for counter in self.model.move]
        if self.chance.random() < 0.25:
            row = spoilt(self.chance, row)
        return (tuple(row),)

    def number_of_rounds(self):
        end = self.model.ending()[1]
        near = self.chance.choice((0, 0, end, self.chance.randint(0, 8), self.chance.randint(0, 3000),
                                  self.chance.randint(0, FAR)))
        return self.chance.choice((near, near, near, near - 1, near + 1, self.chance.choice((FAR, FAR + 1, -1, -HUGE))))

    def test(self):
        reach = self.chance.choice((6, 30, 200))
        test = some_test(self.chance, len(self.model.move), reach)
        return (tuple(spoilt(self.chance, test) if self.chance.random() < 0.2 else test),)

    def counter(self):
        n = len(self.model.move)
        return self.chance.choice((*range(n), *range(n), self.chance.choice((-1, n, HUGE))))

    def starts(self):
        reach = self.chance.choice((5, 300, 10 ** 6 + 3))
        lo = self.chance.randint(-reach, reach)
        return self.counter(), lo, lo + self.chance.choice((0, 1, 5, 5, 5, 12, 59, 60, -1))

    def at(self):
        return (self.number_of_rounds(),)

    def extremes(self):
        return (self.counter(),)

    def nothing(self):
        return ()

    first = last = times = test
    jump = at
    rounds = leap = plain = told = nothing


class Lines(unittest.TestCase):
    def some_line(self, chance):
        """Calls, and what the model answers to them; what it is too slow for is left out."""
        model = Model()
        chooser = Chooser(chance, model)
        calls, answers = [], []
        size = chance.choice((1, 2, 5, 12, 20, 20))
        while len(calls) < size:
            call = ("loop", *chooser.loop()) if not calls and chance.random() < 0.7 else chooser.some_call()
            before = model.told()
            answer = model.answer(call)
            if answer is None:
                continue
            if call[0] not in CHANGING or (answer[0] < 0 and call[0] != "extremes"):
                self.assertEqual(model.told(), before)
            calls.append(call)
            answers.append(answer)
        return calls, answers

    def test_lines_of_any_calls(self):
        chance = random.Random(30)
        met = {}
        for number in range(1200):
            calls, answers = self.some_line(chance)
            with self.subTest(number=number, calls=calls):
                self.assertEqual(ask(*[encoded(call) for call in calls]), answers)
            for call, answer in zip(calls, answers):
                kind = (call[0], min(answer[0], 0) if len(answer) == 1 else 0)
                met[kind] = met.get(kind, 0) + 1
        for kind in (("loop", -1), ("values", -1), ("at", -3), ("jump", -3), ("jump", -4), ("jump", 0), ("leap", -4),
                     ("leap", 0), ("first", -1), ("last", -1), ("last", -7), ("times", -1), ("times", -7),
                     ("extremes", -2), ("extremes", 0), ("starts", -1), ("starts", -2), ("starts", -6), ("starts", 0)):
            self.assertGreater(met.get(kind, 0), 20, kind)

    def test_told_behind_each_call(self):
        """Every other call is told, so that a change shows at once."""
        chance = random.Random(31)
        for number in range(300):
            calls, answers = self.some_line(chance)
            model = Model()
            line, expected = [encoded(("told",))], [model.told()]
            for call, answer in list(zip(calls, answers))[:9]:
                model.answer(call)
                line += [encoded(call), encoded(("told",))]
                expected += [answer, model.told()]
            with self.subTest(number=number, calls=calls[:9]):
                self.assertEqual(ask(*line), expected)


if __name__ == "__main__":
    unittest.main()
