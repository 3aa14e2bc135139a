"""check against the document's words taken one by one, over all scripts of a small form and over many mixed ones."""

import itertools
import unittest

from partscript.parts import check

OVER = "over"


def ways(place):
    return {place[k]: OVER if place[k + 1] == 255 else place[k + 1] for k in range(2, len(place), 2)}


def others_pairs(c, s):
    """All pairs of a place at which c is neither and what can be come to from it through such places."""
    pairs = {(q, x) for q, place in enumerate(s) if c not in place[:2] for x in ways(place).values()}
    while True:
        more = {(a, d) for a, b in pairs for e, d in pairs if b == e} - pairs
        if not more:
            return pairs
        pairs |= more


def comings(c, s):
    own = {q for q, place in enumerate(s) if c in place[:2]}
    pairs = others_pairs(c, s)
    result = {q: {q} for q in own}
    result[OVER] = {OVER}
    rest = [q for q in range(len(s)) if q not in own]
    for q in rest:
        result[q] = {x for a, x in pairs if a == q and (x in own or x == OVER)}
    endless = {q for q in rest if not result[q]}
    for q in rest:
        if q in endless or any((q, x) in pairs for x in endless):
            result[q].add(OVER)
    return result


def fault(c, s, state):
    places = [s[q] for q in state - {OVER}]
    if not places:
        return 0
    if OVER in state:
        return 1
    if len({place[0] == c for place in places}) == 2:
        return 2
    if places[0][0] == c:
        return 0 if len({(place[1], frozenset(ways(place))) for place in places}) == 1 else 3
    return 0 if len({place[0] for place in places}) == 1 else 4


def answer_of_party(c, s):
    come = comings(c, s)
    waiting = [frozenset(come[0])]
    known = set(waiting)
    while waiting:
        state = waiting.pop(0)
        if fault(c, s, state):
            return [1, c, fault(c, s, state)]
        here = [ways(s[q]) for q in state - {OVER}]
        words = sorted(set(itertools.chain(*here)))
        if len(words) > 16:
            return [-75]
        for word in words:
            behind = frozenset().union(*[come[way[word]] for way in here if word in way])
            if behind not in known:
                known.add(behind)
                waiting.append(behind)
            if len(known) > 64:
                return [-75]
    return None


def told_by_definition(p, s):
    for c in range(p):
        answer = answer_of_party(c, s)
        if answer:
            return answer
    return [0]


def small_places(n):
    """All places among three parties with word 1 alone or with words 1 and 2."""
    nexts = list(range(n)) + [255]
    told = [[1, a] for a in nexts] + [[1, a, 2, b] for a in nexts for b in nexts]
    return [[a, b] + way for a, b in itertools.permutations(range(3), 2) for way in told]


class Numbers:
    """A row of numbers that look mixed and are the same each time, on each Python."""

    def __init__(self, seed):
        self.state = seed

    def below(self, limit):
        self.state = (self.state * 6364136223846793005 + 1442695040888963407) % (1 << 64)
        return (self.state >> 33) % limit


def mixed_place(numbers, pairs, targets, words, least, most):
    """A place of one of the pairs, with least to most ways, each to one of the targets."""
    place = list(pairs[numbers.below(len(pairs))])
    start = numbers.below(words)
    for k in range(least + numbers.below(most - least + 1)):
        place += [(start + k) % words, targets[numbers.below(len(targets))]]
    return place


class ByDefinition(unittest.TestCase):
    def compare(self, p, s, seen):
        expected = told_by_definition(p, s)
        self.assertEqual(check(p, s), expected, (p, s))
        seen.add(expected[0] if expected[0] != 1 else (1, expected[2]))

    def test_all_scripts_of_one_and_of_two_small_places(self):
        seen = set()
        for n in (1, 2):
            for s in itertools.product(small_places(n), repeat=n):
                self.compare(3, list(s), seen)
        self.assertEqual(seen, {0, (1, 1)})

    def test_all_scripts_of_a_choice_and_two_small_places_behind_it(self):
        seen = set()
        for s in itertools.product([[0, 1, 1, 1, 2, 2]], small_places(3), small_places(3)):
            self.compare(3, list(s), seen)
        self.assertEqual(seen, {0, (1, 1), (1, 2), (1, 3), (1, 4)})

    def test_mixed_scripts(self):
        numbers = Numbers(1)
        seen = set()
        for k in range(6000):
            p = 3 + numbers.below(3)
            n = 3 + numbers.below(8)
            pairs = [(a, b) for a in range(p) for b in range(p) if a != b][:3 + numbers.below(6)]
            words = 4 + numbers.below(9)
            targets = list(range(n)) + [255]
            self.compare(p, [mixed_place(numbers, pairs, targets, words, 1, 4) for q in range(n)], seen)
        self.assertEqual(seen, {0, (1, 1), (1, 2), (1, 3), (1, 4)})

    def test_scripts_with_many_states(self):
        numbers = Numbers(2)
        seen = set()
        for k in range(400):
            n = 8 + numbers.below(10)
            pairs = [(1, 0), (1, 0), (1, 0), (1, 2)]
            self.compare(3, [mixed_place(numbers, pairs, range(n), 2, 2, 2) for q in range(n)], seen)
        self.assertLessEqual({0, -75}, seen)

    def test_scripts_with_many_words(self):
        numbers = Numbers(3)
        seen = set()
        for k in range(400):
            n = 6 + numbers.below(8)
            s = [[1, 2, 1, 1, 2, 2, 3, 3, 4, 4]]
            s += [mixed_place(numbers, [(1, 0), (1, 0), (1, 2)], range(n), 24, 3, 4) for q in range(n - 1)]
            self.compare(3, s, seen)
        self.assertLessEqual({0, -75}, seen)


if __name__ == "__main__":
    unittest.main()
