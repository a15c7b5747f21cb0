"""Calls of all twelve kinds in one list, against an own plain reading of the document; the longest cases."""

import unittest

from mergebases.history import answers
from tests.plain import CHAIN, HIGHEST, NUMBERS, Case, Draw, adds, ask, drawn_history, flat, ladder, standing
from tests.reading import Drawn, Reading

EVEN = list(NUMBERS)
ASKING = ["parents", "comes_from", "steps", "best", "heads", "walk", "between", "halve", "marked"]
# How often each kind is drawn; how many parents, commits in a set and marks there are at most.
KINDS = [(EVEN + ["add"] * 20, 3, 4, 6),
         (ASKING + ["add"] * 25 + ["mark"] * 4, 2, 3, 4),
         (ASKING + ["add"] * 40 + ["mark"] * 2 + ["prune"], 1, 2, 2),
         (ASKING * 2 + ["add"] * 30 + ["mark"] * 6 + ["prune"], 8, 8, 10),
         (["add"] * 30 + ["mark"] * 3 + ["marked"] * 3 + ["prune"] + ["walk", "halve"] * 3, 2, 3, 64)]


def drawn_cases():
    cases = []
    for seed in range(12):
        for names, most_parents, most_in_set, most_marks in KINDS:
            draw = Draw(1000 * seed + most_marks)
            cases.append(Drawn(draw, names, most_parents, most_in_set, most_marks).fill())
    return cases


def wanted_of(calls):
    reading = Reading()
    return [reading.answer(call) for call in calls]


class Mixed(Case):
    @classmethod
    def setUpClass(cls):
        cls.cases = drawn_cases()

    def test_against_the_plain_reading(self):
        for case in self.cases:
            told = ask(case.calls)
            for place, wanted in enumerate(case.wanted):
                self.assertEqual(told[place], wanted, (place, case.calls[:place + 1]))

    def test_what_is_drawn_has_every_answer_and_refusal_in_it(self):
        met = {(call[0], min(wanted[0], 1)) for case in self.cases for call, wanted in zip(case.calls, case.wanted)}
        asked = {(name, first) for name in NUMBERS for first in (-1, 0, 1)}
        asked |= {(name, -2) for name in ("add", "steps", "mark", "marked")}
        asked -= {("mark", 1), ("prune", -1), ("heads", 0)}
        self.assertEqual(met, asked)

    def test_the_list_stays_and_a_second_time_gives_the_same(self):
        for case in self.cases:
            calls = flat(case.calls)
            copied = list(calls)
            first = answers(calls)
            self.assertEqual(calls, copied)
            self.assertEqual(answers(calls), first)
            self.assertEqual(calls, copied)


class Longest(Case):
    def hold(self, calls):
        self.assertEqual(ask(calls), wanted_of(calls))

    def filled(self, calls, asked):
        """The calls and behind them those asked, again and again, as many as a case may have."""
        turn = 0
        while len(calls) < 400:
            more = calls + [asked[turn % len(asked)]]
            if len(more) * (1000 + standing(more)) > 1000000:
                break
            calls = more
            turn += 1
        return calls

    def test_400_calls_and_a_million_in_all(self):
        calls = adds(CHAIN) + [("mark", 0, 127, 0)] * 200 + [("halve", [127] * 5, [0, 1])] * 14
        calls += [("marked", 0)] * (399 - len(calls))
        calls.append(("walk", [127] * (1500 - 1 - standing(calls)), []))
        self.assertEqual((len(calls), standing(calls)), (400, 1500))
        self.hold(calls)

    def test_30000_numbers(self):
        rows = [("walk", list(range(1000)), list(range(1000))), ("halve", [HIGHEST] * 1000, [0] * 1000)] * 7
        rows.append(("walk", [0] * 1000, [0] * (955 - 7)))
        calls = [("add", [])] + rows + [("add", [0]), ("marked", 0)]
        self.assertEqual(len(flat(calls)), 30000)
        self.assertEqual(ask(calls), [[0]] + [[-1]] * 15 + [[1], [-2]])

    def test_400_prunes(self):
        self.hold([("prune",)] * 400)
        self.hold([("add", []), ("mark", 0, 0, 0)] * 100 + [("prune",), ("add", [0])] * 100)

    def test_every_call_over_full_histories(self):
        draw = Draw(11)
        crowded = drawn_history(draw, 128, 8, 9)
        full = [[]] + [list(range(number - 1, max(-1, number - 9), -1)) for number in range(1, 128)]
        asked = [("halve", [127, 126], []), ("walk", [127], [0]), ("between", 127, 0), ("best", [127, 126, 125]),
                 ("heads", [0, 64, 127]), ("steps", 127, 0), ("comes_from", 127, 1), ("mark", 0, 127, 0), ("prune",),
                 ("marked", 0), ("parents", 127), ("add", [0])]
        for history in (CHAIN, ladder(63), crowded, full):
            self.hold(self.filled(adds(history), asked[7:8] + asked))

    def test_the_dearest_calls_over_a_full_history(self):
        full = [[]] + [list(range(number - 1, max(-1, number - 9), -1)) for number in range(1, 128)]
        for call in (("halve", [127], []), ("between", 127, 0), ("best", list(range(64, 128))),
                     ("walk", list(range(64, 128)), list(range(64)))):
            self.hold(self.filled(adds(full), [call]))


if __name__ == "__main__":
    unittest.main()
