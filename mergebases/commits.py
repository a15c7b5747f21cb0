"""The commits of one history, and who comes from whom."""


# Only the parents are kept: all kinship follows from them. What is asked of here has been
# looked at before: every commit that is told is there.
class Commits:
    def __init__(self):
        self.parents = []

    def total(self):
        return len(self.parents)

    def add_commit(self, parents):
        self.parents.append(list(parents))
        return len(self.parents) - 1

    def parents_of(self, commit):
        return list(self.parents[commit])

    # Answers for every commit whether some of the starts come from it.
    def reached(self, starts):
        seen = [False] * len(self.parents)
        for start in starts:
            seen[start] = True
        # A parent has a lower number than its child, so that on the way down
        # all is known of a commit by the time that it is met.
        for commit in range(len(self.parents) - 1, -1, -1):
            if seen[commit]:
                for parent in self.parents[commit]:
                    seen[parent] = True
        return seen

    def comes_from(self, commit, ancestor):
        return self.reached([commit])[ancestor]

    # Answers None where there is no way down from start to goal.
    def fewest_steps(self, start, goal):
        fewest = [None] * len(self.parents)
        fewest[start] = 0
        # Every way to a commit leads through higher numbers alone, so that its number
        # of steps is the fewest by the time that it is met.
        for commit in range(start, goal, -1):
            if fewest[commit] is not None:
                for parent in self.parents[commit]:
                    if fewest[parent] is None or fewest[parent] > fewest[commit] + 1:
                        fewest[parent] = fewest[commit] + 1
        return fewest[goal]

    def common_ancestors(self, members):
        common = list(range(len(self.parents)))
        for member in members:
            seen = self.reached([member])
            common = [commit for commit in common if seen[commit]]
        return common

    def heads(self, members):
        # No commit comes from itself by way of a parent: what is reached from the members'
        # parents is just what some other member comes from.
        below = []
        for member in members:
            below.extend(self.parents[member])
        seen = self.reached(below)
        return [member for member in sorted(set(members)) if not seen[member]]

    # The best common ancestors are by their definition the heads of all common ancestors.
    def best_common(self, members):
        return self.heads(self.common_ancestors(members))
