"""Promises 1, 2 and 3, and all six calls against the plain reckoning."""

import unittest

from tests.plain import Draw, Plain, all_histories, ask_of, drawn_history, ladder

CHAIN = [[]] + [[number] for number in range(127)]


def large_histories():
    draw = Draw(2026)
    made = [ladder(63), CHAIN, [[] for number in range(128)]]
    for size, most, near in ((128, 2, 4), (128, 2, 128), (128, 8, 10), (100, 3, 6), (60, 2, 3), (30, 8, 30)):
        made += [drawn_history(draw, size, most, near) for turn in range(4)]
    return made


def subsets(size):
    return [[n for n in range(size) if mask >> n & 1] for mask in range(1, 2 ** size)]


def drawn_sets(size):
    draw = Draw(size)
    return [[draw.below(size) for turn in range(count)] for count in (1, 2, 2, 2, 3, 3, 4, 5, 8, 13, 64)]


def pairs_near_the_end(size):
    return [(a, b) for a in range(max(0, size - 7), size) for b in range(size)]


class AgainstThePlainReckoning(unittest.TestCase):
    def hold_pairs(self, history, pairs):
        plain = Plain(history)
        for start in range(0, len(pairs), 100):
            part = pairs[start:start + 100]
            told = ask_of(history, [("comes_from", a, b) for a, b in part])
            self.assertEqual(told, [[int(plain.comes_from(a, b))] for a, b in part], history)
            told = ask_of(history, [("steps", a, b) for a, b in part])
            self.assertEqual(told, [[plain.steps(a, b)] for a, b in part], history)

    def hold_sets(self, history, sets):
        plain = Plain(history)
        told = ask_of(history, [("best", members) for members in sets])
        wanted = [plain.best(members) for members in sets]
        self.assertEqual(told, [[len(best)] + best for best in wanted], history)
        told = ask_of(history, [("heads", members) for members in sets])
        wanted = [plain.heads(members) for members in sets]
        self.assertEqual(told, [[len(heads)] + heads for heads in wanted], history)

    def test_every_history_of_five(self):
        pairs = [(a, b) for a in range(5) for b in range(5)]
        for history in all_histories(5):
            self.hold_pairs(history, pairs)
            self.hold_sets(history, subsets(5))

    def test_large_histories(self):
        for history in large_histories():
            self.hold_pairs(history, pairs_near_the_end(len(history)))
            self.hold_sets(history, drawn_sets(len(history)))

    def test_parents_are_told_as_they_were_given(self):
        for history in large_histories():
            told = ask_of(history, [("parents", commit) for commit in range(len(history))])
            self.assertEqual(told, [[len(parents)] + parents for parents in history])


class Promises(unittest.TestCase):
    """Each promise by its own words, kinship being reckoned plainly."""

    def histories(self):
        return all_histories(4) + large_histories()

    def test_1_the_best_stand_for_all_common_ancestors(self):
        for history in self.histories():
            plain = Plain(history)
            sets = drawn_sets(len(history))
            for members, told in zip(sets, ask_of(history, [("best", members) for members in sets])):
                best = told[1:]
                self.assertEqual(told[0], len(best))
                common = plain.common(members)
                self.assertTrue(set(best) <= set(common))
                for ancestor in common:
                    self.assertTrue(any(plain.comes_from(one, ancestor) for one in best))
                for one in best:
                    self.assertEqual([other for other in best if plain.comes_from(other, one)], [one])

    def test_2_of_two_of_which_one_comes_from_the_other(self):
        for history in self.histories():
            plain = Plain(history)
            pairs = [(a, b) for a, b in pairs_near_the_end(len(history)) if plain.comes_from(a, b)][:100]
            told = ask_of(history, [("best", [a, b]) for a, b in pairs])
            self.assertEqual(told, [[1, b] for a, b in pairs])
            told = ask_of(history, [("best", [b, a]) for a, b in pairs])
            self.assertEqual(told, [[1, b] for a, b in pairs])

    def test_3_heads_stand_for_the_set(self):
        for history in self.histories():
            plain = Plain(history)
            sets = drawn_sets(len(history))
            for members, told in zip(sets, ask_of(history, [("heads", members) for members in sets])):
                heads = told[1:]
                self.assertTrue(set(heads) <= set(members))
                for commit in plain.commits:
                    some = any(plain.comes_from(member, commit) for member in members)
                    self.assertEqual(some, any(plain.comes_from(head, commit) for head in heads))


if __name__ == "__main__":
    unittest.main()
