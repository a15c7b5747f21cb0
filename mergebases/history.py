"""The calls on one history: how they stand in a list, and what they answer."""

from mergebases.commits import Commits
from mergebases.marks import HOW_MANY_MARKS, Marks

ADD = 0
PARENTS = 1
COMES_FROM = 2
STEPS = 3
BEST = 4
HEADS = 5
WALK = 6
BETWEEN = 7
HALVE = 8
MARK = 9
MARKED = 10
PRUNE = 11

MOST_COMMITS = 128
MOST_PARENTS = 8
MOST_IN_SET = 64


class UnknownCall(ValueError):
    pass


class Reader:
    def __init__(self, numbers):
        self.numbers = numbers
        self.place = 0

    def at_end(self):
        return self.place >= len(self.numbers)

    def read_number(self):
        number = self.numbers[self.place]
        self.place += 1
        return number

    def read_row(self):
        length = self.read_number()
        begin = self.place
        self.place = begin + length
        return self.numbers[begin:self.place]


class History:
    def __init__(self):
        self.commits = Commits()
        self.marks = Marks()


def answers(calls):
    history = History()
    reader = Reader(calls)
    given = []
    while not reader.at_end():
        answer = answer_call(history, reader)
        given.append(len(answer))
        given.extend(answer)
    return given


# A call is read to its end before it is looked at: the next one stands behind it, refused or not.
def answer_call(history, reader):
    call = reader.read_number()
    if call in (ADD, BEST, HEADS):
        return answer_of_row(history.commits, call, reader.read_row())
    if call in (COMES_FROM, STEPS, BETWEEN):
        a = reader.read_number()
        b = reader.read_number()
        return answer_of_pair(history.commits, call, a, b)
    if call in (WALK, HALVE):
        first = reader.read_row()
        second = reader.read_row()
        return answer_of_two_sets(history.commits, call, first, second)
    if call == PARENTS:
        return answer_parents(history.commits, reader.read_number())
    if call == MARK:
        mark = reader.read_number()
        commit = reader.read_number()
        force = reader.read_number()
        return answer_mark(history, mark, commit, force)
    if call == MARKED:
        return answer_marked(history.marks, reader.read_number())
    if call == PRUNE:
        return answer_prune(history)
    raise UnknownCall(f"there is no call {call}")


def answer_of_row(commits, call, row):
    if call == ADD:
        return answer_add(commits, row)
    if call == BEST:
        return answer_best(commits, row)
    return answer_heads(commits, row)


def answer_of_pair(commits, call, a, b):
    if call == COMES_FROM:
        return answer_comes_from(commits, a, b)
    if call == STEPS:
        return answer_steps(commits, a, b)
    return answer_between(commits, a, b)


def answer_of_two_sets(commits, call, first, second):
    if call == WALK:
        return answer_walk(commits, first, second)
    return answer_halve(commits, first, second)


def answer_add(commits, parents):
    if len(parents) > MOST_PARENTS or not all_there(commits, parents):
        return [-1]
    if len(set(parents)) != len(parents):
        return [-1]
    if commits.total() >= MOST_COMMITS:
        return [-2]
    return [commits.add_commit(parents)]


def answer_parents(commits, a):
    if not all_there(commits, [a]):
        return [-1]
    return counted(commits.parents_of(a))


def answer_comes_from(commits, a, b):
    if not all_there(commits, [a, b]):
        return [-1]
    return [1 if commits.comes_from(a, b) else 0]


def answer_steps(commits, a, b):
    if not all_there(commits, [a, b]):
        return [-1]
    fewest = commits.fewest_steps(a, b)
    if fewest is None:
        return [-2]
    return [fewest]


def answer_best(commits, members):
    if not fit_set(commits, members):
        return [-1]
    return counted(commits.best_common(members))


def answer_heads(commits, members):
    if not fit_set(commits, members):
        return [-1]
    return counted(commits.heads(members))


def answer_walk(commits, first, second):
    if not fit_two_sets(commits, first, second):
        return [-1]
    return counted(commits.walk(first, second))


def answer_between(commits, a, b):
    if not all_there(commits, [a, b]):
        return [-1]
    return counted(commits.between(a, b))


def answer_halve(commits, first, second):
    if not fit_two_sets(commits, first, second):
        return [-1]
    look = commits.best_look(commits.walk(first, second))
    if look is None:
        return [0]
    return [1, look]


def answer_mark(history, mark, commit, force):
    if mark >= HOW_MANY_MARKS or not all_there(history.commits, [commit]):
        return [-1]
    target = history.marks.target_of(mark)
    if force == 0 and target is not None and not history.commits.comes_from(commit, target):
        return [-2]
    history.marks.point(mark, commit)
    return [0]


def answer_marked(marks, mark):
    if mark >= HOW_MANY_MARKS:
        return [-1]
    target = marks.target_of(mark)
    if target is None:
        return [-2]
    return [target]


def answer_prune(history):
    total = history.commits.total()
    new_numbers = history.commits.keep_reached(history.marks.marked_commits())
    history.marks.renumber(new_numbers)
    return [total - history.commits.total()]


def all_there(commits, members):
    return all([member < commits.total() for member in members])


# A commit that stands more than once in a set counts each time towards the set's size:
# sets are lists, and it is the list that has more than 64 or none.
def fit_set(commits, members):
    return 1 <= len(members) <= MOST_IN_SET and all_there(commits, members)


# Of two sets the second may have none: nothing is taken away then.
def fit_two_sets(commits, first, second):
    return fit_set(commits, first) and len(second) <= MOST_IN_SET and all_there(commits, second)


def counted(told):
    return [len(told)] + told
