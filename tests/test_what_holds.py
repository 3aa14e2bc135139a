"""What the document says holds over the whole program, a to c, over many scripts that can be kept."""

import functools
import itertools
import unittest

import helper
from helper import OVER, branching, flat, renumbered, rows_of, ways
from partscript.parts import check, part

WRITTEN = [
    (2, [[0, 1, 1, 1], [1, 0, 2, 255]]),
    (3, [[0, 1, 1, 1], [1, 2, 1, 2], [2, 0, 1, 255]]),
    (3, [[0, 1, 1, 1, 2, 2], [1, 2, 1, 3], [1, 2, 2, 4], [2, 0, 5, 255], [2, 1, 5, 255]]),
    (3, branching([0, 2, 1, 255], [0, 2, 2, 255, 3, 255])),
    (3, branching([2, 0, 1, 0, 2, 3], [2, 0, 2, 3, 1, 0]) + [[0, 1, 9, 255]]),
    (3, branching([0, 2, 5, 3], [0, 2, 5, 4]) + [[0, 2, 1, 255], [0, 2, 2, 255]]),
    (3, branching([0, 2, 5, 255, 6, 1], [0, 2, 5, 255])),
    (3, [[0, 2, 1, 1], [0, 1, 1, 2], [1, 0, 1, 1]]),
    (3, [[0, 1, 1, 1, 2, 2], [1, 0, 1, 0], [0, 2, 1, 255]]),
    (3, [[0, 1, 1, 1, 2, 2], [0, 2, 1, 255], [0, 2, 2, 0]]),
    (4, [[0, 1, 1, 1, 2, 2], [1, 2, 1, 3], [1, 2, 2, 3], [2, 3, 1, 4, 2, 5],
         [2, 1, 1, 6], [2, 1, 2, 7], [1, 0, 1, 0], [1, 0, 2, 255]]),
    (4, [[0, 1, 1, 1], [2, 3, 1, 2], [3, 2, 1, 3, 2, 1], [1, 0, 1, 255]]),
    (8, [[c, c + 1, 1, c + 1] for c in range(7)] + [[7, 0, 1, 255]]),
    (3, helper.shifting(3, 1)),
]


def kept(scripts):
    return [(p, s) for p, s in scripts if check(p, s) == [0]]


@functools.cache
def kept_scripts():
    """Some of every form; of those of small places, of which there are many alike, every ninth."""
    some = WRITTEN + kept(helper.small_scripts())[::9] + kept(helper.choice_scripts())[::9]
    return some + kept(helper.mixed_scripts(1500)) + kept(helper.scripts_with_many_states(30))


def steps_of_script(c, s, q):
    """Pairs of what c does at place q, or nothing, and what is next."""
    place = s[q]
    for word, target in ways(place).items():
        if place[0] == c:
            yield ((1, place[1], word),), target
        elif place[1] == c:
            yield ((2, place[0], word),), target
        else:
            yield (), target


def ways_through(start, steps, most):
    """All that can be done along ways from the start, of at most that many words, each with where one is then."""
    found = {((), start)}
    fresh = [((), start)]
    while fresh:
        done, here = fresh.pop()
        for more, target in steps(here):
            step = (done + more, target)
            if len(step[0]) <= most and step not in found:
                found.add(step)
                fresh.append(step)
    return found


def never_again(c, s):
    """Over, and the places from which c can't come to a place of its own any more."""
    heard = {q for q, place in enumerate(s) if c in place[:2]}
    while True:
        more = {q for q, place in enumerate(s) if heard & set(ways(place).values())} - heard
        if not more:
            return (set(range(len(s))) | {OVER}) - heard
        heard |= more


class Written(unittest.TestCase):
    def test_the_written_scripts_can_be_kept(self):
        self.assertEqual(kept(WRITTEN), WRITTEN)


class JustTheScript(unittest.TestCase):
    def compare(self, p, c, s, most):
        rows = rows_of(part(p, c, s))
        by_script = ways_through(0, lambda q: [] if q == OVER else steps_of_script(c, s, q), most)
        by_part = ways_through(0, lambda k: [(((*rows[k][:2], word),), x) for word, x in rows[k][2:]], most)
        self.assertEqual({done for done, q in by_script}, {done for done, k in by_part}, (p, c, s))
        # Where c has nothing more to do by the script, it has nothing more to do by its part, and the other way round.
        quiet = never_again(c, s)
        self.assertEqual(
            {done for done, q in by_script if q in quiet},
            {done for done, k in by_part if rows[k][0] == 0}, (p, c, s))

    def test_the_ways_through_a_part_are_those_through_the_script(self):
        for p, s in kept_scripts():
            for c in range(p):
                self.compare(p, c, s, 4)

    def test_longer_ways_through_written_scripts(self):
        for p, s in WRITTEN:
            for c in range(p):
                self.compare(p, c, s, 9)

    def test_a_part_has_no_state_that_no_way_leads_to(self):
        for p, s in kept_scripts():
            for c in range(p):
                rows = rows_of(part(p, c, s))
                behind = [x for row in rows for word, x in row[2:]]
                firsts = [x for k, x in enumerate(behind) if x and x not in behind[:k]]
                self.assertEqual(firsts, list(range(1, len(rows))), (p, c, s))


class Talk:
    """All that can come about if each goes by their part, with at most so many words underway between each two."""

    def __init__(self, p, s, underway):
        self.parts = [rows_of(part(p, c, s)) for c in range(p)]
        self.pairs = list(itertools.permutations(range(p), 2))
        self.underway = underway

    def begin(self):
        return (0,) * len(self.parts), ((),) * len(self.pairs)

    def rows_in(self, talk):
        return [rows[k] for rows, k in zip(self.parts, talk[0])]

    def after(self, talk, c, state, pair, words):
        states, lines = list(talk[0]), list(talk[1])
        states[c] = state
        lines[pair] = words
        return tuple(states), tuple(lines)

    def wrongly_got(self, talk):
        """The words that one who listens gets next and that aren't in their state."""
        found = []
        for c, row in enumerate(self.rows_in(talk)):
            if row[0] == 2:
                line = talk[1][self.pairs.index((row[1], c))]
                found += [word for word in line[:1] if word not in dict(row[2:])]
        return found

    def heard_next(self, talk):
        for c, row in enumerate(self.rows_in(talk)):
            if row[0] == 2:
                pair = self.pairs.index((row[1], c))
                line = talk[1][pair]
                if line:
                    yield self.after(talk, c, dict(row[2:])[line[0]], pair, line[1:])

    def said_next(self, talk):
        for c, row in enumerate(self.rows_in(talk)):
            if row[0] == 1:
                pair = self.pairs.index((c, row[1]))
                line = talk[1][pair]
                if len(line) < self.underway:
                    for word, state in row[2:]:
                        yield self.after(talk, c, state, pair, line + (word,))


class ItIsKept(unittest.TestCase):
    def go_through(self, p, s, most):
        """How many talks came to an end; at most so many are gone through."""
        whole = Talk(p, s, 2)
        fresh = [whole.begin()]
        found = set(fresh)
        ended = 0
        while fresh and len(found) < most:
            talk = fresh.pop(0)
            self.assertEqual(whole.wrongly_got(talk), [], (p, s, talk))
            after = list(whole.heard_next(talk))
            kinds = {row[0] for row in whole.rows_in(talk)}
            if 1 not in kinds and not after:
                self.assertEqual(kinds, {0}, (p, s, talk))
                self.assertFalse(any(talk[1]), (p, s, talk))
                ended += 1
            for step in after + list(whole.said_next(talk)):
                if step not in found:
                    found.add(step)
                    fresh.append(step)
        return ended

    def test_nobody_is_at_a_loss_and_no_word_is_left(self):
        ended = [self.go_through(p, s, 150) for p, s in kept_scripts()]
        self.assertGreater(sum(ended), 500)

    def test_written_scripts_to_more_depth(self):
        for p, s in WRITTEN:
            self.go_through(p, s, 3000)


def with_place(s, q, k, place):
    """The place, its own number written as None and what it leads to as -1, put behind the way k of place q."""
    target = s[q][k]
    result = [list(other) for other in s]
    result[q][k] = len(s)
    result.append([len(s) if x is None else target if x == -1 else x for x in place])
    return result


class NobodyElsesMatter(unittest.TestCase):
    def puts(self, p, s):
        """The script with a place put behind one of its ways, and the place."""
        pairs = list(itertools.permutations(range(p), 2))
        for q, place in enumerate(s):
            for k in range(3, len(place), 2):
                for a, b in pairs:
                    for more in ([7, -1], [8, -1, 7, -1], [7, -1, 9, None]):
                        yield with_place(s, q, k, [a, b] + more), (a, b)

    def test_places_of_others_put_between(self):
        compared = 0
        for p, s in WRITTEN[:-2] + kept(helper.mixed_scripts(600))[::4]:
            parts = [part(p, c, s) for c in range(p)]
            for other, pair in self.puts(p, s):
                if check(p, other) == [0]:
                    for c in set(range(p)) - set(pair):
                        self.assertEqual(part(p, c, other), parts[c], (p, c, s, other))
                        compared += 1
        self.assertGreater(compared, 2000)

    def test_a_word_between_two_newcomers_ahead_of_all(self):
        for p, s in kept_scripts():
            if p + 2 > 8 or len(s) > 31:
                continue
            other = [[p + 1, p, 5, 1, 6, 1]] + renumbered(s, range(1, len(s) + 1))[1:]
            for c in range(p):
                self.assertEqual(part(p + 2, c, other), part(p, c, s), (p, c, s))
            self.assertEqual(part(p + 2, p, other), flat((2, p + 1, (5, 1), (6, 1)), (0, 0)))
            self.assertEqual(part(p + 2, p + 1, other), flat((1, p, (5, 1), (6, 1)), (0, 0)))

    def test_what_hangs_on_a_place_put_between_changes(self):
        s = [[0, 2, 1, 1], [0, 2, 2, 255]]
        self.assertEqual(part(3, 2, s), flat((2, 0, (1, 1)), (2, 0, (2, 2)), (0, 0)))
        same = [[0, 2, 1, 2], [0, 2, 2, 255], [0, 1, 5, 1]]
        self.assertEqual(part(3, 2, same), part(3, 2, s))
        more = [[0, 2, 1, 2], [0, 2, 2, 255], [0, 1, 5, 1, 6, 3], [0, 2, 3, 255]]
        self.assertEqual(part(3, 2, more), flat((2, 0, (1, 1)), (2, 0, (2, 2), (3, 2)), (0, 0)))


if __name__ == "__main__":
    unittest.main()
