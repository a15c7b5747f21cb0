"""Promises 1 to 5, and the calls that ask of kinship against the plain reckoning."""

import unittest

from tests.plain import Case, Draw, Plain, all_histories, ask_of, drawn_sets, large_histories, subsets


def drawn_pairs_of_sets(size):
    """First and second sets, the second often of lower commits, so that walks are left."""
    draw = Draw(size + 1)
    pairs = [([size - 1], []), ([size - 1], [size // 2]), ([size - 1, size // 2], [0])]
    for count, other in ((1, 0), (1, 1), (2, 1), (3, 2), (5, 1), (8, 5), (13, 1), (64, 0), (64, 3), (30, 30)):
        bound = 1 + draw.below(size)
        pairs.append(([draw.below(size) for turn in range(count)], [draw.below(bound) for turn in range(other)]))
    return pairs


def pairs_near_the_end(size):
    return [(a, b) for a in range(max(0, size - 7), size) for b in range(size)]


class AgainstThePlainReckoning(Case):
    def hold_pairs(self, history, pairs):
        plain = Plain(history)
        for start in range(0, len(pairs), 100):
            part = pairs[start:start + 100]
            told = ask_of(history, [("comes_from", a, b) for a, b in part])
            self.assertEqual(told, [[int(plain.comes_from(a, b))] for a, b in part], history)
            told = ask_of(history, [("steps", a, b) for a, b in part])
            self.assertEqual(told, [[plain.steps(a, b)] for a, b in part], history)
            told = ask_of(history, [("between", a, b) for a, b in part])
            wanted = [plain.between(a, b) for a, b in part]
            self.assertEqual(told, [[len(between)] + between for between in wanted], history)

    def hold_sets(self, history, sets):
        plain = Plain(history)
        told = ask_of(history, [("best", members) for members in sets])
        wanted = [plain.best(members) for members in sets]
        self.assertEqual(told, [[len(best)] + best for best in wanted], history)
        told = ask_of(history, [("heads", members) for members in sets])
        wanted = [plain.heads(members) for members in sets]
        self.assertEqual(told, [[len(heads)] + heads for heads in wanted], history)

    def hold_two_sets(self, history, pairs):
        plain = Plain(history)
        told = ask_of(history, [("walk", first, second) for first, second in pairs])
        wanted = [plain.walk(first, second) for first, second in pairs]
        self.assertEqual(told, [[len(walk)] + walk for walk in wanted], history)
        told = ask_of(history, [("halve", first, second) for first, second in pairs])
        self.assertEqual(told, [plain.halve(first, second) for first, second in pairs], history)

    def test_every_history_of_five(self):
        pairs = [(a, b) for a in range(5) for b in range(5)]
        for history in all_histories(5):
            self.hold_pairs(history, pairs)
            self.hold_sets(history, subsets(5))
            self.hold_two_sets(history, [(first, []) for first in subsets(5)])

    def test_every_two_sets_of_every_history_of_four(self):
        for history in all_histories(4):
            self.hold_two_sets(history, [(first, second) for first in subsets(4) for second in [[]] + subsets(4)])

    def test_large_histories(self):
        for history in large_histories():
            self.hold_pairs(history, pairs_near_the_end(len(history)))
            self.hold_sets(history, drawn_sets(len(history)))
            self.hold_two_sets(history, drawn_pairs_of_sets(len(history)))

    def test_parents_are_told_as_they_were_given(self):
        for history in large_histories():
            told = ask_of(history, [("parents", commit) for commit in range(len(history))])
            self.assertEqual(told, [[len(parents)] + parents for parents in history])


class Promises(Case):
    """Each promise by its own words, kinship being reckoned plainly."""

    def histories(self):
        return all_histories(4) + large_histories()

    def test_1_the_best_stand_for_all_common_ancestors(self):
        for history in self.histories():
            plain = Plain(history)
            sets = drawn_sets(len(history))
            for members, told in zip(sets, ask_of(history, [("best", members) for members in sets])):
                self.assertTrue(plain.best_stand_for_all(members, told[1:]), (history, members, told))

    def test_2_of_two_of_which_one_comes_from_the_other(self):
        for history in self.histories():
            plain = Plain(history)
            pairs = [(a, b) for a, b in pairs_near_the_end(len(history)) if plain.comes_from(a, b)][:100]
            told = ask_of(history, [("best", [a, b]) for a, b in pairs])
            self.assertEqual(told, [[1, b] for a, b in pairs])
            told = ask_of(history, [("best", [b, a]) for a, b in pairs])
            self.assertEqual(told, [[1, b] for a, b in pairs])

    def test_3_heads_stand_for_the_set(self):
        for history in self.histories():
            plain = Plain(history)
            sets = drawn_sets(len(history))
            for members, told in zip(sets, ask_of(history, [("heads", members) for members in sets])):
                self.assertTrue(plain.heads_stand_for_all(members, told[1:]), (history, members, told))

    def test_4_a_walk_puts_every_commit_before_those_that_it_comes_from(self):
        for history in self.histories():
            plain = Plain(history)
            pairs = drawn_pairs_of_sets(len(history))
            for told in ask_of(history, [("walk", first, second) for first, second in pairs]):
                walk = told[1:]
                self.assertEqual(told[0], len(walk))
                for place, commit in enumerate(walk):
                    self.assertFalse(any(plain.comes_from(later, commit) for later in walk[place + 1:]))

    def test_walk_and_between_are_told_falling(self):
        for history in self.histories():
            size = len(history)
            calls = [("walk", first, second) for first, second in drawn_pairs_of_sets(size)]
            calls += [("between", a, b) for a, b in pairs_near_the_end(size)[:100]]
            for told in ask_of(history, calls):
                self.assertEqual(told[1:], sorted(set(told[1:]), reverse=True))

    def test_5_as_many_candidates_as_can_be_are_done_with(self):
        for history in self.histories():
            plain = Plain(history)
            pairs = drawn_pairs_of_sets(len(history))
            for pair, told in zip(pairs, ask_of(history, [("halve", first, second) for first, second in pairs])):
                looks = plain.looks(plain.walk(*pair))
                self.assertEqual(told[0], 1 if looks else 0)
                if looks:
                    self.assertEqual(looks[told[1]], max(looks.values()))
                if len(looks) >= 2:
                    self.assertGreaterEqual(looks[told[1]], 1)


if __name__ == "__main__":
    unittest.main()
