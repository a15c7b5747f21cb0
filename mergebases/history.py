"""The calls on one history: how they stand in a list, and what they answer."""

from mergebases.commits import Commits

ADD = 0
PARENTS = 1
COMES_FROM = 2
STEPS = 3
BEST = 4
HEADS = 5

MOST_COMMITS = 128
MOST_PARENTS = 8
MOST_IN_SET = 64


class UnknownCall(ValueError):
    pass


class Reader:
    def __init__(self, numbers):
        self.numbers = numbers
        self.place = 0

    def at_end(self):
        return self.place >= len(self.numbers)

    def read_number(self):
        number = self.numbers[self.place]
        self.place += 1
        return number

    def read_row(self):
        length = self.read_number()
        begin = self.place
        self.place = begin + length
        return self.numbers[begin:self.place]


def answers(calls):
    commits = Commits()
    reader = Reader(calls)
    given = []
    while not reader.at_end():
        answer = answer_call(commits, reader)
        given.append(len(answer))
        given.extend(answer)
    return given


def answer_call(commits, reader):
    call = reader.read_number()
    if call == ADD:
        return answer_add(commits, reader.read_row())
    if call == PARENTS:
        return answer_parents(commits, reader.read_number())
    if call == COMES_FROM:
        a = reader.read_number()
        b = reader.read_number()
        return answer_comes_from(commits, a, b)
    if call == STEPS:
        a = reader.read_number()
        b = reader.read_number()
        return answer_steps(commits, a, b)
    if call == BEST:
        return answer_best(commits, reader.read_row())
    if call == HEADS:
        return answer_heads(commits, reader.read_row())
    raise UnknownCall(f"there is no call {call}")


def answer_add(commits, parents):
    if len(parents) > MOST_PARENTS or not all_there(commits, parents):
        return [-1]
    if len(set(parents)) != len(parents):
        return [-1]
    if commits.total() >= MOST_COMMITS:
        return [-2]
    return [commits.add_commit(parents)]


def answer_parents(commits, a):
    if not all_there(commits, [a]):
        return [-1]
    return counted(commits.parents_of(a))


def answer_comes_from(commits, a, b):
    if not all_there(commits, [a, b]):
        return [-1]
    return [1 if commits.comes_from(a, b) else 0]


def answer_steps(commits, a, b):
    if not all_there(commits, [a, b]):
        return [-1]
    fewest = commits.fewest_steps(a, b)
    if fewest is None:
        return [-2]
    return [fewest]


def answer_best(commits, members):
    if not fit_set(commits, members):
        return [-1]
    return counted(commits.best_common(members))


def answer_heads(commits, members):
    if not fit_set(commits, members):
        return [-1]
    return counted(commits.heads(members))


def all_there(commits, members):
    return all([member < commits.total() for member in members])


# A commit that stands more than once in a set counts each time towards the set's size:
# sets are lists, and it is the list that has more than 64 or none.
def fit_set(commits, members):
    return 1 <= len(members) <= MOST_IN_SET and all_there(commits, members)


def counted(told):
    return [len(told)] + told
