"""Each one's part of a script, and whether it can be kept by those who each know their own part alone.

A place is a list: from, to, and then of each of its ways word and next.
A state is a rising list of place numbers, with OVER as its last member if over is in it;
so two states are the same if their lists are.
A state's row is a list: kind, other, how many words, and then of each of these the word and the state's number behind.
"""

OVER = 255

KEPT = 0
NOT_CLEAR = 1

NO_SCRIPT = -22
NOT_KEPT = -71
TOO_MUCH = -75

LEAST_PARTIES = 2
MOST_PARTIES = 8
MOST_PLACES = 32
PLACE_LENGTHS = (4, 6, 8, 10)
MOST_WORDS = 16
MOST_STATES = 64

CLEAR = 0
OVER_AMONG_PLACES = 1
SPEAKS_AND_LISTENS = 2
SPEAKS_UNLIKE = 3
LISTENS_TO_SEVERAL = 4

NOTHING_MORE = 0
SPEAKS = 1
LISTENS = 2


def words_at(place):
    return [place[k] for k in range(2, len(place), 2)]


def nexts_at(place):
    return [place[k] for k in range(3, len(place), 2)]


def is_at(c, place):
    return place[0] == c or place[1] == c


def is_place(p, n, place):
    if len(place) not in PLACE_LENGTHS:
        return False
    if place[0] >= p or place[1] >= p or place[0] == place[1]:
        return False
    words = words_at(place)
    if len(set(words)) != len(words):
        return False
    return all([target < n or target == OVER for target in nexts_at(place)])


def is_script(p, s):
    if p < LEAST_PARTIES or p > MOST_PARTIES:
        return False
    if len(s) < 1 or len(s) > MOST_PLACES:
        return False
    return all([is_place(p, len(s), place) for place in s])


def walk_past_others(c, s, q):
    """All that is come to from place q, itself too, when only c's own places and over stop the walk."""
    found = [q]
    k = 0
    while k < len(found):
        here = found[k]
        if here != OVER and not is_at(c, s[here]):
            for target in nexts_at(s[here]):
                if target not in found:
                    found.append(target)
        k += 1
    return found


def stops_of(c, s, walk):
    return [q for q in walk if q == OVER or is_at(c, s[q])]


def all_comings(c, s):
    """For each place, the state that c comes to from it."""
    walks = [walk_past_others(c, s, q) for q in range(len(s))]
    stops = [stops_of(c, s, walk) for walk in walks]
    comings = []
    for walk, own in zip(walks, stops):
        state = sorted(own)
        # Others who go round for ever never call on c again: for c that is over.
        if OVER not in walk and any([stops[q] == [] for q in walk]):
            state.append(OVER)
        comings.append(state)
    return comings


def coming_from(comings, target):
    return [OVER] if target == OVER else comings[target]


def places_in(s, state):
    return [s[q] for q in state if q != OVER]


def words_in(s, state):
    words = []
    for place in places_in(s, state):
        words.extend(words_at(place))
    return sorted(set(words))


def state_behind(s, comings, state, word):
    found = {}
    for place in places_in(s, state):
        for said, target in zip(words_at(place), nexts_at(place)):
            if said == word:
                for q in coming_from(comings, target):
                    found[q] = True
    return sorted(found.keys())


def speaks_alike(place, other):
    # The order in which a place's words are written says nothing.
    return place[1] == other[1] and sorted(words_at(place)) == sorted(words_at(other))


def fault_of_speaker(places):
    alike = all([speaks_alike(place, places[0]) for place in places])
    return CLEAR if alike else SPEAKS_UNLIKE


def fault_of_listener(places):
    alike = all([place[0] == places[0][0] for place in places])
    return CLEAR if alike else LISTENS_TO_SEVERAL


def fault_of_state(c, s, state):
    places = places_in(s, state)
    if places == []:
        return CLEAR
    if OVER in state:
        return OVER_AMONG_PLACES
    spoken = [place for place in places if place[0] == c]
    if spoken == []:
        return fault_of_listener(places)
    if len(spoken) < len(places):
        return SPEAKS_AND_LISTENS
    return fault_of_speaker(places)


def trouble_of_state(c, s, state):
    """What check answers because of the state by itself; an empty list if nothing is wrong with it."""
    fault = fault_of_state(c, s, state)
    if fault != CLEAR:
        return [NOT_CLEAR, c, fault]
    if len(words_in(s, state)) > MOST_WORDS:
        return [TOO_MUCH]
    return []


def kind_and_other(c, s, state):
    places = places_in(s, state)
    if places == []:
        return [NOTHING_MORE, 0]
    # The state is clear, so its first place tells what all of them do.
    if places[0][0] == c:
        return [SPEAKS, places[0][1]]
    return [LISTENS, places[0][0]]


def row_of_state(c, s, comings, state, states):
    """The state's row; a state behind it that isn't among the states yet is added to them."""
    words = words_in(s, state)
    row = kind_and_other(c, s, state)
    row.append(len(words))
    for word in words:
        behind = state_behind(s, comings, state, word)
        if behind not in states:
            states.append(behind)
        row.extend([word, states.index(behind)])
    return row


def walk_of_party(c, s):
    """A pair: what check answers because of party c, or an empty list; and the rows of its states up to there."""
    comings = all_comings(c, s)
    states = [comings[0]]
    rows = []
    while len(rows) < len(states):
        state = states[len(rows)]
        trouble = trouble_of_state(c, s, state)
        if trouble != []:
            return (trouble, rows)
        rows.append(row_of_state(c, s, comings, state, states))
        if len(states) > MOST_STATES:
            return ([TOO_MUCH], rows)
    return ([], rows)


def check(p, s):
    """[0] if the script can be kept; [1, party, what is wrong]; or a refusal alone."""
    if not is_script(p, s):
        return [NO_SCRIPT]
    for c in range(p):
        trouble = walk_of_party(c, s)[0]
        if trouble != []:
            return trouble
    return [KEPT]


def part(p, c, s):
    """How many states party c has, and then the row of each; or a refusal alone."""
    answer = check(p, s)
    if answer[0] == NO_SCRIPT or c >= p:
        return [NO_SCRIPT]
    if answer[0] == NOT_CLEAR:
        return [NOT_KEPT]
    if answer[0] == TOO_MUCH:
        return [TOO_MUCH]
    rows = walk_of_party(c, s)[1]
    result = [len(rows)]
    for row in rows:
        result.extend(row)
    return result
