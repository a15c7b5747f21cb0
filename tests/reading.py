"""An own plain reading of the whole document, all twelve calls; and cases that are drawn for it."""

from tests.plain import HIGHEST, standing


class Commit:
    def __init__(self, parents):
        self.parents = parents
        self.kin = {self}.union(*[parent.kin for parent in parents])


class Reading:
    """Commits are things of their own here, and a number is only where one stands in the list: so pruning
    is to leave things out of the list, and nothing is numbered anew by hand."""

    def __init__(self):
        self.commits = []
        self.marks = {}

    def answer(self, call):
        name, *given = call
        return getattr(self, name)(*given)

    def wrong(self, *commits):
        return any(commit >= len(self.commits) for commit in commits)

    def wrong_set(self, numbers):
        return self.wrong(*numbers) or len(numbers) > 64

    def told(self, commits, falling=False):
        numbers = [number for number, commit in enumerate(self.commits) if commit in commits]
        return [len(numbers)] + (numbers[::-1] if falling else numbers)

    def kin_of_some(self, numbers):
        return set().union(*[self.commits[number].kin for number in numbers])

    def none_other_from(self, commits):
        return {one for one in commits if not any(one in other.kin for other in commits if other is not one)}

    def add(self, parents):
        if len(parents) > 8 or self.wrong(*parents) or len(parents) > len(set(parents)):
            return [-1]
        if len(self.commits) == 128:
            return [-2]
        self.commits.append(Commit([self.commits[parent] for parent in parents]))
        return [len(self.commits) - 1]

    def parents(self, a):
        if self.wrong(a):
            return [-1]
        parents = self.commits[a].parents
        return [len(parents)] + [self.commits.index(parent) for parent in parents]

    def comes_from(self, a, b):
        if self.wrong(a, b):
            return [-1]
        return [1] if self.commits[b] in self.commits[a].kin else [0]

    def steps(self, a, b):
        if self.wrong(a, b):
            return [-1]
        steps, level = 0, {self.commits[a]}
        while level:
            if self.commits[b] in level:
                return [steps]
            steps, level = steps + 1, {parent for commit in level for parent in commit.parents}
        return [-2]

    def best(self, members):
        if self.wrong_set(members) or not members:
            return [-1]
        common = set.intersection(*[self.commits[member].kin for member in members])
        return self.told(self.none_other_from(common))

    def heads(self, members):
        if self.wrong_set(members) or not members:
            return [-1]
        return self.told(self.none_other_from({self.commits[member] for member in members}))

    def walk(self, first, second):
        if self.wrong_set(first) or self.wrong_set(second) or not first:
            return [-1]
        return self.told(self.kin_of_some(first) - self.kin_of_some(second), falling=True)

    def between(self, a, b):
        if self.wrong(a, b):
            return [-1]
        return self.told({one for one in self.commits[a].kin if self.commits[b] in one.kin}, falling=True)

    def halve(self, first, second):
        if self.wrong_set(first) or self.wrong_set(second) or not first:
            return [-1]
        candidates = self.kin_of_some(first) - self.kin_of_some(second)
        if not candidates:
            return [0]
        looks = [min(len(one.kin & candidates), len(candidates - one.kin)) if one in candidates else -1
                 for one in self.commits]
        return [1, looks.index(max(looks))]

    def mark(self, mark, commit, force):
        if mark > 63 or self.wrong(commit):
            return [-1]
        if force == 0 and mark in self.marks and self.marks[mark] not in self.commits[commit].kin:
            return [-2]
        self.marks[mark] = self.commits[commit]
        return [0]

    def marked(self, mark):
        if mark > 63:
            return [-1]
        return [self.commits.index(self.marks[mark])] if mark in self.marks else [-2]

    def prune(self):
        kept = set().union(*[commit.kin for commit in self.marks.values()])
        before = len(self.commits)
        self.commits = [commit for commit in self.commits if commit in kept]
        return [before - len(self.commits)]


class Drawn:
    """A case that is drawn call by call, together with what the plain reading answers to it."""

    def __init__(self, draw, names, most_parents, most_in_set, most_marks):
        self.draw = draw
        self.names = names
        self.most_parents = most_parents
        self.most_in_set = most_in_set
        self.most_marks = most_marks
        self.reading = Reading()
        self.calls = []
        self.wanted = []

    def fill(self):
        """Calls, until no other fits into what a case may have."""
        while len(self.calls) < 400:
            call = self.drawn_call(self.names[self.draw.below(len(self.names))])
            if (len(self.calls) + 1) * (1000 + standing(self.calls + [call])) > 1000000:
                return self
            self.calls.append(call)
            self.wanted.append(self.reading.answer(call))
        return self

    def drawn_call(self, name):
        if name in ("parents", "comes_from", "steps", "between"):
            return (name,) + tuple(self.commit() for turn in range(1 if name == "parents" else 2))
        if name in ("best", "heads"):
            return name, self.members(1)
        if name in ("walk", "halve"):
            return name, self.members(1), self.members(0)
        if name == "add":
            return name, self.parents()
        if name == "mark":
            return name, self.mark(), self.commit(), (0, 0, 0, 1, HIGHEST)[self.draw.below(5)]
        return (name, self.mark()) if name == "marked" else (name,)

    def seldom(self):
        return self.draw.below(40) == 0

    def commit(self):
        there = len(self.reading.commits)
        if there == 0 or self.seldom():
            return (there, there + 1, HIGHEST)[self.draw.below(3)]
        # The newest are the ones that have kin to ask for.
        return there - 1 - min(self.draw.below(there), self.draw.below(there))

    def parents(self):
        if self.seldom():
            return [self.commit() for turn in range(10)]
        drawn = [self.commit() for turn in range(self.draw.below(self.most_parents + 1))]
        return drawn if self.seldom() else list(dict.fromkeys(drawn))

    def members(self, fewest):
        if self.seldom():
            return [self.commit()] * (0, 64, 65)[self.draw.below(3)]
        return [self.commit() for turn in range(fewest + self.draw.below(self.most_in_set))]

    def mark(self):
        return (63, 64, HIGHEST)[self.draw.below(3)] if self.seldom() else self.draw.below(self.most_marks)
