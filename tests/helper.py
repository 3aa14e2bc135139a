"""Scripts for the tests, and the document's words taken one by one.

A place is written as the interface tells it: from, to, and then word and next of each way; next 255 is over.
"""

import itertools

OVER = "over"


def branching(*behind):
    """0 tells 1, but not 2, which one of the places behind it is."""
    first = [0, 1]
    for k in range(len(behind)):
        first += [k + 1, k + 1]
    return [first] + [list(place) for place in behind]


def shifting(depth, ahead):
    """Party 0 listens to 1 for ever and has ahead + 2 ** depth states; the script can be kept but for their number.

    Behind word 1 at the first of depth + 1 places 1 tells 2 alone whether it stays there or goes along the others,
    so each set of those others is a state of 0, with that first place.
    """
    line = [ahead + k for k in range(depth + 1)]
    choice = ahead + depth + 1
    s = [[1, 0, 1, k + 1] for k in range(ahead)]
    s.append([1, 0, 1, choice, 2, line[0]])
    for after in line[2:] + line[:1]:
        s.append([1, 0, 1, after, 2, after])
    s.append([1, 2, 1, line[0], 2, line[1]])
    return s


def wordy(count):
    """Party 0 comes from place 0 to places 2 to 6, and these have count different words, 17 to 20."""
    s = [[1, 2, 1, 2, 2, 3, 3, 4, 4, 1], [1, 2, 1, 5, 2, 6]]
    for k in range(5):
        place = [1, 0]
        for word in range(4 * k, min(4 * k + 4, count)):
            place += [word, 255]
        s.append(place)
    return s


def renumbered(s, order):
    """The same script, its place q now being place order[q]."""
    result = [None] * (max(order) + 1)
    for q, place in enumerate(s):
        other = list(place)
        for k in range(3, len(place), 2):
            if place[k] != 255:
                other[k] = order[place[k]]
        result[order[q]] = other
    return result


def moved(s, places):
    """The same places, to be put behind that many others."""
    order = [q + places for q in range(len(s))]
    return renumbered(s, order)[places:]


def with_parties(s, parties):
    """The same script, its party c now being parties[c]."""
    return [[parties[place[0]], parties[place[1]]] + place[2:] for place in s]


class Unchangeable(list):
    """A list that fails as soon as something tries to change it."""

    def refuse(self, *args, **kwargs):
        raise RuntimeError("what was handed in is changed")

    append = clear = extend = insert = pop = remove = reverse = sort = refuse
    __setitem__ = __delitem__ = __iadd__ = __imul__ = refuse


def small_places(n):
    """All places among three parties with word 1 alone or with words 1 and 2."""
    nexts = list(range(n)) + [255]
    told = [[1, a] for a in nexts] + [[1, a, 2, b] for a in nexts for b in nexts]
    return [[a, b] + way for a, b in itertools.permutations(range(3), 2) for way in told]


class Numbers:
    """A row of numbers that look mixed and are the same each time, on each Python."""

    def __init__(self, seed):
        self.state = seed

    def below(self, limit):
        self.state = (self.state * 6364136223846793005 + 1442695040888963407) % (1 << 64)
        return (self.state >> 33) % limit


def mixed_place(numbers, pairs, targets, words, least, most):
    """A place of one of the pairs, with least to most ways, each to one of the targets."""
    place = list(pairs[numbers.below(len(pairs))])
    start = numbers.below(words)
    for k in range(least + numbers.below(most - least + 1)):
        place += [(start + k) % words, targets[numbers.below(len(targets))]]
    return place


def small_scripts():
    """All scripts of one and of two small places."""
    for n in (1, 2):
        for s in itertools.product(small_places(n), repeat=n):
            yield 3, list(s)


def choice_scripts():
    """All scripts of a choice and two small places behind it."""
    for s in itertools.product([[0, 1, 1, 1, 2, 2]], small_places(3), small_places(3)):
        yield 3, list(s)


def mixed_scripts(count):
    numbers = Numbers(1)
    for k in range(count):
        p = 3 + numbers.below(3)
        n = 3 + numbers.below(8)
        pairs = [(a, b) for a in range(p) for b in range(p) if a != b][:3 + numbers.below(6)]
        words = 4 + numbers.below(9)
        targets = list(range(n)) + [255]
        yield p, [mixed_place(numbers, pairs, targets, words, 1, 4) for q in range(n)]


def scripts_with_many_states(count):
    numbers = Numbers(2)
    for k in range(count):
        n = 8 + numbers.below(10)
        pairs = [(1, 0), (1, 0), (1, 0), (1, 2)]
        yield 3, [mixed_place(numbers, pairs, range(n), 2, 2, 2) for q in range(n)]


def scripts_with_many_words(count):
    numbers = Numbers(3)
    for k in range(count):
        n = 6 + numbers.below(8)
        s = [[1, 2, 1, 1, 2, 2, 3, 3, 4, 4]]
        s += [mixed_place(numbers, [(1, 0), (1, 0), (1, 2)], range(n), 24, 3, 4) for q in range(n - 1)]
        yield 3, s


def ways(place):
    return {place[k]: OVER if place[k + 1] == 255 else place[k + 1] for k in range(2, len(place), 2)}


def others_pairs(c, s):
    """All pairs of a place at which c is neither and what can be come to from it through such places."""
    pairs = {(q, x) for q, place in enumerate(s) if c not in place[:2] for x in ways(place).values()}
    while True:
        more = {(a, d) for a, b in pairs for e, d in pairs if b == e} - pairs
        if not more:
            return pairs
        pairs |= more


def comings(c, s):
    own = {q for q, place in enumerate(s) if c in place[:2]}
    pairs = others_pairs(c, s)
    result = {q: {q} for q in own}
    result[OVER] = {OVER}
    rest = [q for q in range(len(s)) if q not in own]
    for q in rest:
        result[q] = {x for a, x in pairs if a == q and (x in own or x == OVER)}
    endless = {q for q in rest if not result[q]}
    for q in rest:
        if q in endless or any((q, x) in pairs for x in endless):
            result[q].add(OVER)
    return result


def fault(c, s, state):
    places = [s[q] for q in state - {OVER}]
    if not places:
        return 0
    if OVER in state:
        return 1
    if len({place[0] == c for place in places}) == 2:
        return 2
    if places[0][0] == c:
        return 0 if len({(place[1], frozenset(ways(place))) for place in places}) == 1 else 3
    return 0 if len({place[0] for place in places}) == 1 else 4


def kind_and_other(c, s, state):
    """Of a clear state."""
    who = {place[:2] for place in (tuple(s[q]) for q in state - {OVER})}
    if not who:
        return 0, 0
    if all(a == c for a, b in who):
        (other,) = {b for a, b in who}
        return 1, other
    (other,) = {a for a, b in who}
    return 2, other


def party_by_definition(c, s):
    """What check answers because of c, or None; and of c's states, as far as they are gone through, what part tells."""
    come = comings(c, s)
    waiting = [frozenset(come[0])]
    known = {waiting[0]: 0}
    rows = []
    while waiting:
        state = waiting.pop(0)
        if fault(c, s, state):
            return [1, c, fault(c, s, state)], rows
        here = [ways(s[q]) for q in state - {OVER}]
        words = sorted(set(itertools.chain(*here)))
        if len(words) > 16:
            return [-75], rows
        row = kind_and_other(c, s, state)
        for word in words:
            behind = frozenset().union(*[come[way[word]] for way in here if word in way])
            if behind not in known:
                known[behind] = len(known)
                waiting.append(behind)
            if len(known) > 64:
                return [-75], rows
            row += ((word, known[behind]),)
        rows.append(row)
    return None, rows


def check_by_definition(p, s):
    for c in range(p):
        answer, rows = party_by_definition(c, s)
        if answer:
            return answer
    return [0]


def flat(*rows):
    """What part answers: each row is written as kind, other and then pairs of a word and a state's number."""
    answer = [len(rows)]
    for kind, other, *words in rows:
        answer += [kind, other, len(words)]
        for word, state in words:
            answer += [word, state]
    return answer


def rows_of(answer):
    """The rows that flat makes the answer of."""
    rows = []
    rest = list(answer[1:])
    for k in range(answer[0]):
        kind, other, count = rest[:3]
        rows.append((kind, other) + tuple(zip(rest[3:3 + 2 * count:2], rest[4:4 + 2 * count:2])))
        rest = rest[3 + 2 * count:]
    if rest:
        raise ValueError("numbers behind the last row")
    return rows
