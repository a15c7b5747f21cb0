"""prune, promise 6, and promises 1 to 3 over histories that were pruned."""

import unittest

from tests.plain import (CHAIN, CROSS, Case, Draw, Plain, adds, all_histories, ask, ask_of, drawn_sets,
                         large_histories, subsets)


def pruned(history, marked):
    """What is left of a history: its parents by new numbers, and the new number of each that is kept."""
    kept = sorted(Plain(history).reached(marked))
    anew = {commit: number for number, commit in enumerate(kept)}
    return [[anew[parent] for parent in history[commit]] for commit in kept], anew


def marks(marked):
    return [("mark", mark, commit, 0) for mark, commit in enumerate(marked)]


def ask_pruned(history, marked, questions):
    """The answers to the questions alone, the history having been built, marked and pruned first."""
    told = ask_of(history, marks(marked) + [("prune",)] + questions)
    assert told[:len(marked)] == [[0]] * len(marked), told
    assert told[len(marked)] == [len(history) - len(pruned(history, marked)[0])], told
    return told[len(marked) + 1:]


def drawn_marks(history):
    """Some few sets of commits to mark, which keep little or much of the history."""
    draw = Draw(len(history))
    size = len(history)
    return [[draw.below(size) for turn in range(count)] for count in (1, 1, 2, 3, 5)] + [[size // 2, size // 3]]


class Prune(Case):
    def test_of_no_commits(self):
        self.assertEqual(ask([("prune",), ("prune",), ("add", []), ("prune",)]), [[0], [0], [0], [1]])

    def test_no_marks_at_all(self):
        calls = [("prune",), ("parents", 0), ("prune",), ("add", [0]), ("add", []), ("add", [0]), ("parents", 1)]
        self.assertEqual(ask_of(CROSS, calls), [[7], [-1], [0], [-1], [0], [1], [1, 0]])

    def test_nothing_to_forget(self):
        calls = marks([4, 5, 6]) + [("prune",)] + [("parents", commit) for commit in range(8)]
        calls += [("marked", mark) for mark in range(4)]
        self.assertEqual(ask_of(CROSS, calls)[3:], [[0], [0], [1, 0], [1, 0], [2, 1, 2], [2, 2, 1], [1, 3], [0], [-1],
                                                    [4], [5], [6], [-2]])

    def test_what_no_marked_commit_comes_from_is_forgotten(self):
        # 3, 5 and 6 go; 4 is 3 now, with its parents in their order.
        calls = marks([4]) + [("prune",)] + [("parents", commit) for commit in range(5)] + [("marked", 0)]
        self.assertEqual(ask_of(CROSS, calls)[1:], [[3], [0], [1, 0], [1, 0], [2, 2, 1], [-1], [3]])

    def test_the_lowest_go(self):
        calls = marks([6]) + [("prune",), ("parents", 0), ("parents", 1), ("marked", 0), ("add", [0]), ("parents", 1)]
        self.assertEqual(ask_of(CROSS, calls)[1:], [[6], [0], [-1], [0], [1], [1, 0]])

    def test_a_second_time_there_is_nothing_to_forget(self):
        calls = marks([4, 6]) + [("prune",), ("prune",), ("marked", 0), ("marked", 1)]
        self.assertEqual(ask_of(CROSS, calls)[2:], [[2], [0], [3], [4]])

    def test_what_a_mark_has_left_is_forgotten(self):
        calls = [("mark", 0, 5, 0), ("prune",), ("mark", 0, 1, 1), ("prune",), ("marked", 0), ("parents", 1)]
        self.assertEqual(ask_of(CROSS, calls), [[0], [2], [0], [3], [1], [1, 0]])

    def test_a_refused_mark_keeps_nothing(self):
        calls = [("mark", 0, 1, 0), ("mark", 0, 6, 0), ("mark", 64, 6, 0), ("mark", 1, 7, 0), ("prune",), ("marked", 0)]
        self.assertEqual(ask_of(CROSS, calls), [[0], [-2], [-1], [-1], [5], [1]])

    def test_marks_at_one_commit(self):
        calls = [("mark", 63, 2, 0), ("mark", 9, 2, 0), ("prune",), ("marked", 63), ("marked", 9), ("marked", 0)]
        self.assertEqual(ask_of(CROSS, calls), [[0], [0], [5], [1], [1], [-2]])

    def test_a_mark_at_commit_0(self):
        calls = [("mark", 0, 0, 0), ("prune",), ("marked", 0), ("parents", 0), ("parents", 1)]
        self.assertEqual(ask_of(CROSS, calls), [[0], [6], [0], [0], [-1]])

    def test_a_chain_of_128(self):
        calls = [("mark", 0, 127, 0), ("prune",), ("mark", 0, 0, 1), ("prune",), ("marked", 0)]
        self.assertEqual(ask_of(CHAIN, calls), [[0], [0], [0], [127], [0]])

    def test_all_64_marks_keep(self):
        apart = [[] for number in range(128)]
        calls = [("mark", mark, 2 * mark + 1, 0) for mark in range(64)] + [("prune",)]
        calls += [("marked", mark) for mark in range(64)] + [("parents", 64)]
        self.assertEqual(ask_of(apart, calls)[64:], [[64]] + [[mark] for mark in range(64)] + [[-1]])


class Promise6(Case):
    def hold_parents_and_marks(self, history, marked):
        left, anew = pruned(history, marked)
        questions = [("parents", commit) for commit in range(len(left) + 1)]
        questions += [("marked", mark) for mark in range(len(marked) + 1)] + [("add", [])]
        wanted = [[len(parents)] + parents for parents in left] + [[-1]]
        wanted += [[anew[commit]] for commit in marked] + [[-2], [len(left)]]
        self.assertEqual(ask_pruned(history, marked, questions), wanted, (history, marked))

    def test_every_history_of_four_and_all_that_can_be_marked(self):
        for history in all_histories(4):
            for marked in [[]] + subsets(4):
                self.hold_parents_and_marks(history, marked)

    def test_large_histories(self):
        for history in large_histories():
            for marked in drawn_marks(history):
                self.hold_parents_and_marks(history, marked)

    def test_kinship_is_what_it_was(self):
        for history in large_histories():
            for marked in drawn_marks(history):
                anew = pruned(history, marked)[1]
                kept = list(anew)
                draw = Draw(len(kept))
                pairs = [(kept[draw.below(len(kept))], kept[draw.below(len(kept))]) for turn in range(40)]
                pairs = [(max(pair), min(pair)) for pair in pairs]
                for name in ("comes_from", "steps"):
                    before = ask_of(history, [(name, a, b) for a, b in pairs])
                    after = ask_pruned(history, marked, [(name, anew[a], anew[b]) for a, b in pairs])
                    self.assertEqual(before, after)
                for name in ("between", "best"):
                    given = [[[a, b]] if name == "best" else [a, b] for a, b in pairs]
                    renamed = [[[anew[a], anew[b]]] if name == "best" else [anew[a], anew[b]] for a, b in pairs]
                    before = ask_of(history, [(name, *values) for values in given])
                    after = ask_pruned(history, marked, [(name, *values) for values in renamed])
                    self.assertEqual([told[:1] + [anew[commit] for commit in told[1:]] for told in before], after)

    def test_numbers_are_given_again(self):
        calls = [("add", [0, 3]), ("add", [4]), ("add", [6]), ("parents", 4), ("parents", 5), ("comes_from", 5, 2)]
        self.assertEqual(ask_pruned(CROSS, [4], calls), [[4], [5], [-1], [2, 0, 3], [1, 4], [1]])

    def test_room_is_there_again(self):
        calls = [("add", [0]), ("mark", 0, 99, 0), ("prune",)] + [("add", [99])] * 29 + [("parents", 127)]
        wanted = [[-2], [0], [28]] + [[number] for number in range(100, 128)] + [[-2], [1, 99]]
        self.assertEqual(ask_of(CHAIN, calls), wanted)

    def test_no_more_room_than_was_made(self):
        calls = [("mark", 0, 127, 0), ("prune",), ("add", [127]), ("mark", 0, 126, 1), ("prune",), ("add", [126]),
                 ("add", [126])]
        self.assertEqual(ask_of(CHAIN, calls), [[0], [0], [-2], [0], [1], [127], [-2]])

    def test_all_room_again_and_again(self):
        calls = (adds([[] for number in range(128)]) + [("add", []), ("prune",)]) * 3
        self.assertEqual(ask(calls), ([[number] for number in range(128)] + [[-2], [128]]) * 3)

    def test_a_mark_still_goes_forward_alone(self):
        # 4 is 3 now, and 6 is 4.
        calls = [("mark", 0, 2, 0), ("mark", 0, 4, 0), ("add", [3]), ("mark", 0, 5, 0), ("mark", 0, 3, 0),
                 ("marked", 0)]
        self.assertEqual(ask_pruned(CROSS, [4, 6], calls), [[-2], [-2], [5], [0], [-2], [5]])

    def test_a_mark_that_points_to_none_goes_anywhere(self):
        calls = [("marked", 1), ("mark", 1, 1, 0), ("marked", 1)]
        self.assertEqual(ask_pruned(CROSS, [4], calls), [[-2], [0], [1]])


def grown(history, marked):
    """A history that was pruned and to which commits were added since, and the calls that make it."""
    left = pruned(history, marked)[0]
    draw = Draw(len(left))
    calls = adds(history) + marks(marked) + [("prune",)]
    for turn in range(min(20, 128 - len(left))):
        drawn = draw.some(len(left), 3)
        calls.append(("add", drawn))
        left = left + [drawn]
    return left, calls


class PromisesOverPrunedHistories(Case):
    def cases(self):
        for history in all_histories(4) + large_histories():
            for marked in drawn_marks(history)[2:]:
                left, calls = grown(history, marked)
                yield Plain(left), calls

    def answered(self, calls, questions):
        return ask(calls + questions)[len(calls):]

    def test_1_the_best_stand_for_all_common_ancestors(self):
        for plain, calls in self.cases():
            sets = drawn_sets(len(plain.history))[1:9]
            for members, told in zip(sets, self.answered(calls, [("best", members) for members in sets])):
                self.assertTrue(plain.best_stand_for_all(members, told[1:]), (calls, members, told))
                self.assertEqual(told, [len(told) - 1] + sorted(told[1:]))

    def test_2_of_two_of_which_one_comes_from_the_other(self):
        for plain, calls in self.cases():
            size = len(plain.history)
            pairs = [(a, b) for a in range(max(0, size - 3), size) for b in range(size) if plain.comes_from(a, b)][:60]
            told = self.answered(calls, [("best", [a, b]) for a, b in pairs])
            self.assertEqual(told, [[1, b] for a, b in pairs])

    def test_3_heads_stand_for_the_set(self):
        for plain, calls in self.cases():
            sets = drawn_sets(len(plain.history))[1:9]
            for members, told in zip(sets, self.answered(calls, [("heads", members) for members in sets])):
                self.assertTrue(plain.heads_stand_for_all(members, told[1:]), (calls, members, told))
                self.assertEqual(told, [len(told) - 1] + sorted(told[1:]))


if __name__ == "__main__":
    unittest.main()
