"""The commits of one history, and who comes from whom."""


# Only the parents are kept: all kinship follows from them. What is asked of here has been
# looked at before: every commit that is told is there.
class Commits:
    def __init__(self):
        self.parents = []

    def total(self):
        return len(self.parents)

    def add_commit(self, parents):
        self.parents.append(list(parents))
        return len(self.parents) - 1

    def parents_of(self, commit):
        return list(self.parents[commit])

    # Answers for every commit whether some of the starts come from it.
    def reached(self, starts):
        seen = [False] * len(self.parents)
        for start in starts:
            seen[start] = True
        # A parent has a lower number than its child, so that on the way down
        # all is known of a commit by the time that it is met.
        for commit in range(len(self.parents) - 1, -1, -1):
            if seen[commit]:
                for parent in self.parents[commit]:
                    seen[parent] = True
        return seen

    # Answers for every commit whether it comes from the ancestor.
    def reaching(self, ancestor):
        found = [False] * len(self.parents)
        found[ancestor] = True
        # On the way up all is known of the parents by the time that their child is met.
        for commit in range(ancestor + 1, len(self.parents)):
            found[commit] = any([found[parent] for parent in self.parents[commit]])
        return found

    def comes_from(self, commit, ancestor):
        return self.reached([commit])[ancestor]

    # Answers None where there is no way down from start to goal.
    def fewest_steps(self, start, goal):
        fewest = [None] * len(self.parents)
        fewest[start] = 0
        # Every way to a commit leads through higher numbers alone, so that its number
        # of steps is the fewest by the time that it is met.
        for commit in range(start, goal, -1):
            if fewest[commit] is not None:
                for parent in self.parents[commit]:
                    if fewest[parent] is None or fewest[parent] > fewest[commit] + 1:
                        fewest[parent] = fewest[commit] + 1
        return fewest[goal]

    def common_ancestors(self, members):
        common = list(range(len(self.parents)))
        for member in members:
            seen = self.reached([member])
            common = [commit for commit in common if seen[commit]]
        return common

    def heads(self, members):
        # No commit comes from itself by way of a parent: what is reached from the members'
        # parents is just what some other member comes from.
        below = []
        for member in members:
            below.extend(self.parents[member])
        seen = self.reached(below)
        return [member for member in sorted(set(members)) if not seen[member]]

    # The best common ancestors are by their definition the heads of all common ancestors.
    def best_common(self, members):
        return self.heads(self.common_ancestors(members))

    # A child has a higher number than all that it comes from: falling numbers put it before them.
    def falling(self):
        return list(range(len(self.parents) - 1, -1, -1))

    def walk(self, first, second):
        inside = self.reached(first)
        outside = self.reached(second)
        return [commit for commit in self.falling() if inside[commit] and not outside[commit]]

    def between(self, upper, lower):
        below = self.reached([upper])
        above = self.reaching(lower)
        return [commit for commit in self.falling() if below[commit] and above[commit]]

    # Answers None where there are no candidates, which stand falling, as in a walk.
    def best_look(self, candidates):
        best = None
        most = -1
        # Rising, so that of equals the lowest is met first and stays.
        for candidate in reversed(candidates):
            seen = self.reached([candidate])
            inside = len([other for other in candidates if seen[other]])
            smaller = min(inside, len(candidates) - inside)
            if smaller > most:
                best = candidate
                most = smaller
        return best

    # Forgets the commits that none of the starts come from. Answers for every commit that there
    # was its new number, None for one that is forgotten.
    def keep_reached(self, starts):
        seen = self.reached(starts)
        new_numbers = [None] * len(self.parents)
        kept = []
        for commit in range(len(self.parents)):
            if seen[commit]:
                # The parents of a commit that is kept are kept, and were numbered before it.
                new_numbers[commit] = len(kept)
                kept.append([new_numbers[parent] for parent in self.parents[commit]])
        self.parents = kept
        return new_numbers
