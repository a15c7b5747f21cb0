"""What the tests share: how calls are written, and a plain reckoning by the document's definitions."""

import itertools
import unittest

from mergebases.history import answers

NUMBERS = {"add": 0, "parents": 1, "comes_from": 2, "steps": 3, "best": 4, "heads": 5, "walk": 6, "between": 7,
           "halve": 8, "mark": 9, "marked": 10, "prune": 11}
HIGHEST = 4294967295
CHAIN = [[]] + [[number] for number in range(127)]
# 1 and 2 are merged crosswise as 3 and 4; 5 comes from 3 alone; 6 is apart.
CROSS = [[], [0], [0], [1, 2], [2, 1], [3], []]


class Case(unittest.TestCase):
    """Of two long lists unittest tells every difference, which can take it minutes; here the first is told."""

    def setUp(self):
        self.addTypeEqualityFunc(list, self.same_lists)

    def same_lists(self, told, wanted, msg=None):
        for place, (one, other) in enumerate(itertools.zip_longest(told, wanted)):
            if one != other:
                self.fail(f"at place {place} of the list: {one!r}, not {other!r}; {msg}")


def standing(calls):
    """How many numbers stand in the calls, the lengths of lists not counted."""
    values = [value for call in calls for value in call]
    return sum(len(value) if isinstance(value, list) else 1 for value in values)


def flat(calls):
    """The one list in which the calls stand; a call is its name, then numbers and lists."""
    listed = []
    for name, *given in calls:
        listed.append(NUMBERS[name])
        for value in given:
            listed += [len(value)] + value if isinstance(value, list) else [value]
    # A test that hands in more than the document allows would show nothing.
    assert 1 <= len(calls) <= 400, len(calls)
    assert len(listed) <= 30000, len(listed)
    assert len(calls) * (1000 + standing(calls)) <= 1000000, (len(calls), standing(calls))
    return listed


def parted(answered):
    """The answers, one list for each call."""
    parts = []
    place = 0
    while place < len(answered):
        end = place + 1 + answered[place]
        assert place + 1 < end <= len(answered), answered
        parts.append(answered[place + 1:end])
        place = end
    return parts


def ask(calls):
    parts = parted(answers(flat(calls)))
    assert len(parts) == len(calls), (len(parts), len(calls))
    return parts


def adds(history):
    """The calls that build a history, which is a list of each commit's parents."""
    return [("add", list(parents)) for parents in history]


def ask_of(history, questions):
    """The answers to the questions alone, the history having been built first."""
    parts = ask(adds(history) + questions)
    built = parts[:len(history)]
    assert built == [[number] for number in range(len(history))], built
    return parts[len(history):]


class Plain:
    """The document's definitions, word for word, with nothing done to be fast."""

    def __init__(self, history):
        self.history = history
        self.commits = range(len(history))
        self.kin = []
        for commit in self.commits:
            own = {commit}
            for parent in history[commit]:
                own |= self.kin[parent]
            self.kin.append(own)

    def comes_from(self, a, b):
        return b in self.kin[a]

    def steps(self, a, b):
        level = {a}
        count = 0
        while level:
            if b in level:
                return count
            level = {parent for commit in level for parent in self.history[commit]}
            count += 1
        return -2

    def common(self, members):
        return [c for c in self.commits if all(self.comes_from(member, c) for member in members)]

    def none_other_from(self, members):
        return [c for c in sorted(set(members))
                if not any(other != c and self.comes_from(other, c) for other in members)]

    def best(self, members):
        return self.none_other_from(self.common(members))

    def heads(self, members):
        return self.none_other_from(members)

    def best_stand_for_all(self, members, best):
        """Promise 1, by its own words."""
        common = self.common(members)
        return (set(best) <= set(common)
                and all(any(self.comes_from(one, ancestor) for one in best) for ancestor in common)
                and all([other for other in best if self.comes_from(other, one)] == [one] for one in best))

    def heads_stand_for_all(self, members, heads):
        """Promise 3, by its own words."""
        return set(heads) <= set(members) and self.reached(heads) == self.reached(members)

    def reached(self, members):
        return {c for c in self.commits if any(self.comes_from(member, c) for member in members)}

    def walk(self, first, second):
        return sorted(self.reached(first) - self.reached(second), reverse=True)

    def between(self, a, b):
        return [c for c in reversed(self.commits) if self.comes_from(a, c) and self.comes_from(c, b)]

    def looks(self, candidates):
        """For each candidate how many candidates a look at it is sure to be done with."""
        looks = {}
        for candidate in candidates:
            inside = [other for other in candidates if self.comes_from(candidate, other)]
            others = [other for other in candidates if other not in inside]
            looks[candidate] = min(len(inside), len(others))
        return looks

    def halve(self, first, second):
        looks = self.looks(self.walk(first, second))
        if not looks:
            return [0]
        return [1, min(c for c in looks if looks[c] == max(looks.values()))]


class Draw:
    """Numbers that are the same each time, on every Python."""

    def __init__(self, seed):
        self.state = seed

    def below(self, bound):
        self.state = (self.state * 6364136223846793005 + 1442695040888963407) % 2 ** 64
        return (self.state >> 33) % bound

    def some(self, bound, count):
        """Up to count different numbers below bound, in no order."""
        drawn = []
        for number in [self.below(bound) for turn in range(count) if bound]:
            if number not in drawn:
                drawn.append(number)
        return drawn


def all_histories(size):
    """Every history of that many commits, but for the order in which parents stand."""
    found = [[]]
    for number in range(size):
        found = [history + [[p for p in range(number) if mask >> p & 1]]
                 for history in found for mask in range(2 ** number)]
    return found


def drawn_history(draw, size, most, near):
    """A history whose commits have up to most parents, each among the near ones before it."""
    history = []
    for number in range(size):
        low = max(0, number - near)
        drawn = draw.some(number - low, draw.below(most + 1))
        history.append([low + parent for parent in drawn])
    return history


def ladder(rungs):
    """Two lines that are merged crosswise again and again: two best ancestors at each rung."""
    history = [[], []]
    for rung in range(rungs):
        left = 2 * rung
        history += [[left, left + 1], [left + 1, left]]
    return history


def large_histories():
    draw = Draw(2026)
    made = [ladder(63), CHAIN, [[] for number in range(128)]]
    for size, most, near in ((128, 2, 4), (128, 2, 128), (128, 8, 10), (100, 3, 6), (60, 2, 3), (30, 8, 30)):
        made += [drawn_history(draw, size, most, near) for turn in range(4)]
    return made


def subsets(size):
    return [[n for n in range(size) if mask >> n & 1] for mask in range(1, 2 ** size)]


def drawn_sets(size):
    draw = Draw(size)
    return [[draw.below(size) for turn in range(count)] for count in (1, 2, 2, 2, 3, 3, 4, 5, 8, 13, 64)]
