"""What the tests share: how calls are written, and a plain reckoning by the document's definitions."""

from mergebases.history import answers

NUMBERS = {"add": 0, "parents": 1, "comes_from": 2, "steps": 3, "best": 4, "heads": 5}
HIGHEST = 4294967295


def flat(calls):
    """The one list in which the calls stand; a call is its name, then numbers and lists."""
    listed = []
    standing = 0
    for name, *given in calls:
        listed.append(NUMBERS[name])
        standing += 1
        for value in given:
            if isinstance(value, list):
                listed += [len(value)] + value
                standing += len(value)
            else:
                listed.append(value)
                standing += 1
    # A test that hands in more than the document allows would show nothing.
    assert 1 <= len(calls) <= 400, len(calls)
    assert len(listed) <= 30000, len(listed)
    assert len(calls) * (1000 + standing) <= 1000000, (len(calls), standing)
    return listed


def parted(answered):
    """The answers, one list for each call."""
    parts = []
    place = 0
    while place < len(answered):
        end = place + 1 + answered[place]
        assert place + 1 < end <= len(answered), answered
        parts.append(answered[place + 1:end])
        place = end
    return parts


def ask(calls):
    parts = parted(answers(flat(calls)))
    assert len(parts) == len(calls), (len(parts), len(calls))
    return parts


def adds(history):
    """The calls that build a history, which is a list of each commit's parents."""
    return [("add", list(parents)) for parents in history]


def ask_of(history, questions):
    """The answers to the questions alone, the history having been built first."""
    parts = ask(adds(history) + questions)
    built = parts[:len(history)]
    assert built == [[number] for number in range(len(history))], built
    return parts[len(history):]


class Plain:
    """The document's definitions, word for word, with nothing done to be fast."""

    def __init__(self, history):
        self.history = history
        self.commits = range(len(history))
        self.kin = []
        for commit in self.commits:
            own = {commit}
            for parent in history[commit]:
                own |= self.kin[parent]
            self.kin.append(own)

    def comes_from(self, a, b):
        return b in self.kin[a]

    def steps(self, a, b):
        level = {a}
        count = 0
        while level:
            if b in level:
                return count
            level = {parent for commit in level for parent in self.history[commit]}
            count += 1
        return -2

    def common(self, members):
        return [c for c in self.commits if all(self.comes_from(member, c) for member in members)]

    def none_other_from(self, members):
        return [c for c in sorted(set(members))
                if not any(other != c and self.comes_from(other, c) for other in members)]

    def best(self, members):
        return self.none_other_from(self.common(members))

    def heads(self, members):
        return self.none_other_from(members)


class Draw:
    """Numbers that are the same each time, on every Python."""

    def __init__(self, seed):
        self.state = seed

    def below(self, bound):
        self.state = (self.state * 6364136223846793005 + 1442695040888963407) % 2 ** 64
        return (self.state >> 33) % bound

    def some(self, bound, count):
        """Up to count different numbers below bound, in no order."""
        drawn = []
        for number in [self.below(bound) for turn in range(count) if bound]:
            if number not in drawn:
                drawn.append(number)
        return drawn


def all_histories(size):
    """Every history of that many commits, but for the order in which parents stand."""
    found = [[]]
    for number in range(size):
        found = [history + [[p for p in range(number) if mask >> p & 1]]
                 for history in found for mask in range(2 ** number)]
    return found


def drawn_history(draw, size, most, near):
    """A history whose commits have up to most parents, each among the near ones before it."""
    history = []
    for number in range(size):
        low = max(0, number - near)
        drawn = draw.some(number - low, draw.below(most + 1))
        history.append([low + parent for parent in drawn])
    return history


def ladder(rungs):
    """Two lines that are merged crosswise again and again: two best ancestors at each rung."""
    history = [[], []]
    for rung in range(rungs):
        left = 2 * rung
        history += [[left, left + 1], [left + 1, left]]
    return history
