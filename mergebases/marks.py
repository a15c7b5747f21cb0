"""The marks of one history, and the commits that they point to."""

HOW_MANY_MARKS = 64


# What is asked of here has been looked at before: every mark and commit that is told is there.
class Marks:
    def __init__(self):
        self.targets = [None] * HOW_MANY_MARKS

    # Answers None where the mark points to none.
    def target_of(self, mark):
        return self.targets[mark]

    def point(self, mark, commit):
        self.targets[mark] = commit

    def marked_commits(self):
        return [target for target in self.targets if target is not None]

    # A mark's commit is never forgotten, so that each has a new number.
    def renumber(self, new_numbers):
        self.targets = [None if target is None else new_numbers[target] for target in self.targets]
