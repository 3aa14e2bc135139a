"""check, point 1 of the document, by written scripts.

A place is written as the interface tells it: from, to, and then word and next of each way; next 255 is over.
"""

import contextlib
import copy
import io
import unittest

from helper import Unchangeable, branching, moved, renumbered, shifting, with_parties, wordy
from partscript.parts import check


class CheckTest(unittest.TestCase):
    def answers(self, expected, p, s):
        self.assertEqual(check(p, s), expected, (p, s))


class CanBeKept(CheckTest):
    def test_question_and_answer(self):
        self.answers([0], 2, [[0, 1, 1, 1], [1, 0, 2, 255]])

    def test_the_first_to_speak_may_be_any_party(self):
        self.answers([0], 3, [[2, 1, 9, 1], [1, 0, 8, 2], [0, 2, 7, 255]])

    def test_round_of_three(self):
        self.answers([0], 3, [[0, 1, 1, 1], [1, 2, 1, 2], [2, 0, 1, 255]])

    def test_choice_told_to_all(self):
        self.answers([0], 3, [[0, 1, 1, 1, 2, 2], [0, 2, 1, 255], [0, 2, 2, 255]])

    def test_choice_told_on_by_its_hearer(self):
        s = [[0, 1, 1, 1, 2, 2], [1, 2, 1, 3], [1, 2, 2, 4], [2, 0, 5, 255], [2, 1, 5, 255]]
        self.answers([0], 3, s)

    def test_choice_that_changes_nothing_for_the_third(self):
        self.answers([0], 3, branching([2, 0, 1, 255, 2, 255], [2, 0, 1, 255, 2, 255]))

    def test_same_words_in_another_order_are_the_same_words(self):
        self.answers([0], 3, branching([2, 0, 1, 255, 2, 255], [2, 0, 2, 255, 1, 255]))

    def test_listening_at_places_with_different_words(self):
        self.answers([0], 3, branching([0, 2, 1, 255], [0, 2, 2, 255, 3, 255]))

    def test_words_0_and_255_are_words_like_others(self):
        self.answers([0], 2, [[0, 1, 255, 0, 0, 255]])

    def test_a_place_never_come_to_makes_no_state(self):
        s = [[0, 1, 1, 255], [0, 1, 1, 2, 2, 255], [1, 2, 1, 255]]
        self.answers([0], 3, s)

    def test_eight_parties(self):
        s = [[c, c + 1, 1, c + 1] for c in range(7)] + [[7, 0, 1, 255]]
        self.answers([0], 8, s)


class WhatIsWrong(CheckTest):
    def test_1_over_or_more(self):
        self.answers([1, 2, 1], 3, [[0, 1, 1, 255, 2, 1], [1, 2, 1, 255]])

    def test_1_over_or_more_for_one_who_speaks(self):
        self.answers([1, 2, 1], 3, [[0, 1, 1, 255, 2, 1], [2, 1, 1, 255]])

    def test_1_ahead_of_2(self):
        s = branching([2, 0, 1, 255], [0, 2, 1, 255])
        s[0] += [3, 255]
        self.answers([1, 2, 1], 3, s)

    def test_1_ahead_of_3(self):
        s = branching([2, 0, 1, 255], [2, 1, 1, 255])
        s[0] += [3, 255]
        self.answers([1, 2, 1], 3, s)

    def test_1_ahead_of_4(self):
        s = branching([0, 2, 1, 255], [1, 2, 1, 255])
        s[0] += [3, 255]
        self.answers([1, 2, 1], 3, s)

    def test_2_speaks_at_one_place_and_listens_at_another(self):
        self.answers([1, 2, 2], 3, branching([2, 0, 1, 255], [0, 2, 1, 255]))
        self.answers([1, 2, 2], 3, branching([0, 2, 1, 255], [2, 0, 1, 255]))

    def test_2_ahead_of_3(self):
        self.answers([1, 2, 2], 3, branching([2, 0, 1, 255], [2, 1, 2, 255], [0, 2, 1, 255]))

    def test_2_ahead_of_4(self):
        self.answers([1, 2, 2], 3, branching([0, 2, 1, 255], [1, 2, 1, 255], [2, 0, 1, 255]))

    def test_3_speaks_to_two(self):
        self.answers([1, 2, 3], 3, branching([2, 0, 1, 255], [2, 1, 1, 255]))

    def test_3_speaks_with_other_words(self):
        self.answers([1, 2, 3], 3, branching([2, 0, 1, 255], [2, 0, 2, 255]))

    def test_3_speaks_with_some_of_the_words(self):
        self.answers([1, 2, 3], 3, branching([2, 0, 1, 255], [2, 0, 1, 255, 2, 255]))
        self.answers([1, 2, 3], 3, branching([2, 0, 1, 255, 2, 255], [2, 0, 2, 255]))

    def test_3_only_the_last_of_three_places_differs(self):
        self.answers([1, 2, 3], 3, branching([2, 0, 1, 255], [2, 0, 1, 255], [2, 1, 1, 255]))
        self.answers([1, 2, 3], 3, branching([2, 0, 1, 255], [2, 0, 1, 255], [2, 0, 2, 255]))

    def test_4_listens_to_two(self):
        self.answers([1, 2, 4], 3, branching([0, 2, 1, 255], [1, 2, 1, 255]))

    def test_4_also_with_different_words(self):
        self.answers([1, 2, 4], 3, branching([0, 2, 1, 255], [1, 2, 2, 255]))

    def test_4_only_the_last_of_three_places_differs(self):
        self.answers([1, 2, 4], 3, branching([0, 2, 1, 255], [0, 2, 1, 255], [1, 2, 1, 255]))

    def test_party_0_and_party_1_may_be_the_one(self):
        self.answers([1, 0, 4], 3, [[1, 2, 1, 1, 2, 2], [1, 0, 1, 255], [2, 0, 1, 255]])
        self.answers([1, 1, 3], 3, [[0, 2, 1, 1, 2, 2], [1, 0, 1, 255], [1, 2, 1, 255]])

    def test_the_last_of_eight_parties_may_be_the_one(self):
        self.answers([1, 7, 2], 8, branching([7, 0, 1, 255], [0, 7, 1, 255]))


class TheFirstOne(CheckTest):
    def test_the_lower_party(self):
        # To 2 it is over or more, to 3 it is 0 or 1 that speaks.
        s = [[0, 1, 1, 1, 2, 2], [0, 3, 1, 3], [1, 3, 1, 255], [0, 2, 1, 255]]
        self.answers([1, 2, 1], 4, s)
        swapped = [[0, 1, 1, 1, 2, 2], [0, 2, 1, 3], [1, 2, 1, 255], [0, 3, 1, 255]]
        self.answers([1, 2, 4], 4, swapped)

    def forked(self, low, high):
        """0 tells 2 a word, and then 1 what 2 isn't told: 4 is wrong behind the word low, 3 behind high."""
        return [
            [0, 2, high, 2, low, 1],
            [0, 1, 1, 3, 2, 4], [0, 1, 3, 5, 4, 6],
            [0, 2, 1, 255], [1, 2, 1, 255],
            [2, 0, 1, 255], [2, 1, 1, 255],
        ]

    def test_the_state_behind_the_lower_word(self):
        for low, high in ((1, 2), (1, 8), (7, 16), (2, 255), (0, 255), (200, 201)):
            self.answers([1, 2, 4], 3, self.forked(low, high))
            self.answers([1, 2, 3], 3, self.forked(high, low))

    def test_the_state_found_earlier_though_behind_a_higher_word(self):
        s = self.forked(1, 2)
        s.append([0, 2, 1, 1])
        s[0] = [0, 2, 1, 7, 2, 2]
        self.answers([1, 2, 3], 3, s)

    def test_a_fault_behind_many_words(self):
        s = [[0, 2, 1, k + 1] for k in range(20)] + [[0, 1, 1, 21, 2, 22], [2, 0, 1, 255], [0, 2, 1, 255]]
        self.answers([1, 2, 2], 3, s)


class NoScript(CheckTest):
    kept = [[0, 1, 1, 1], [1, 0, 2, 255]]

    def test_p(self):
        for p in (0, 1, 9, 10, 255, 256, 258, 4294967295):
            self.answers([-22], p, self.kept)
        for p in (2, 3, 4, 5, 6, 7, 8):
            self.answers([0], p, self.kept)

    def test_from_not_below_p(self):
        for p, party in ((2, 2), (2, 3), (2, 255), (7, 7), (8, 8)):
            self.answers([-22], p, [[party, 1, 1, 255]])
        self.answers([0], 3, [[2, 1, 1, 255]])

    def test_to_not_below_p(self):
        for p, party in ((2, 2), (2, 3), (2, 255), (7, 7), (8, 8)):
            self.answers([-22], p, [[0, party, 1, 255]])
        self.answers([0], 3, [[0, 2, 1, 255]])

    def test_from_the_same_as_to(self):
        self.answers([-22], 2, [[0, 0, 1, 255]])
        self.answers([-22], 2, [[1, 1, 1, 255]])

    def test_a_word_twice_at_a_place(self):
        self.answers([-22], 2, [[0, 1, 1, 255, 1, 255]])
        self.answers([-22], 2, [[0, 1, 1, 0, 1, 255]])
        self.answers([-22], 2, [[0, 1, 1, 255, 2, 255, 1, 255]])
        self.answers([-22], 2, [[0, 1, 1, 255, 2, 255, 3, 255, 2, 255]])

    def test_a_word_at_two_places_is_no_fault(self):
        self.answers([0], 2, [[0, 1, 1, 1], [0, 1, 1, 255]])

    def test_a_next_that_is_neither_a_place_nor_over(self):
        for target in (1, 2, 31, 32, 254):
            self.answers([-22], 2, [[0, 1, 1, target]])
            self.answers([-22], 2, [[0, 1, 1, 255, 2, 255, 3, 255, 4, target]])
        self.answers([-22], 2, [[0, 1, 1, 1], [1, 0, 2, 2]])
        self.answers([-22], 2, [[0, 1, 1, 32]] * 32)
        self.answers([0], 2, [[0, 1, 1, 31]] * 32)

    def test_a_place_never_come_to_counts(self):
        for place in ([2, 1, 1, 255], [0, 2, 1, 255], [1, 1, 1, 255], [0, 1, 1, 255, 1, 0], [0, 1, 1, 2]):
            self.answers([-22], 2, [[0, 1, 1, 255], place])

    def test_how_many_places_and_numbers(self):
        self.answers([-22], 2, [])
        self.answers([-22], 2, [[0, 1, 1, 255]] * 33)
        for place in ([0, 1], [0, 1, 1], [0, 1, 1, 255, 2], [0, 1, 1, 0, 2, 0, 3, 0, 4, 0, 5, 0]):
            self.answers([-22], 2, [place])

    def test_ahead_of_what_is_wrong_with_a_state(self):
        s = branching([2, 0, 1, 255], [0, 2, 1, 255])
        self.answers([1, 2, 2], 3, s)
        self.answers([-22], 3, s + [[0, 1, 1, 4]])

    def test_ahead_of_too_much(self):
        self.answers([-22], 3, wordy(17) + [[0, 1, 1, 99]])
        self.answers([-22], 3, shifting(6, 1) + [[0, 0, 1, 255]])


class TooMuch(CheckTest):
    def test_sixteen_words_are_not_too_many(self):
        s = wordy(17)
        s[6] = [1, 0, 15, 255]
        self.answers([0], 3, s)

    def test_more_than_sixteen_words(self):
        for count in (17, 18, 19, 20):
            self.answers([-75], 3, wordy(count))

    def test_words_that_the_places_share_count_once(self):
        s = wordy(20)
        s[6] = list(s[5])
        self.answers([0], 3, s)

    def test_more_than_sixteen_words_in_a_later_state(self):
        self.answers([-75], 3, [[1, 0, 1, 1]] + moved(wordy(17), 1))

    def test_a_state_that_is_not_clear_has_no_words_to_count(self):
        with_over = wordy(20)
        with_over[1] += [3, 255]
        self.answers([1, 0, 1], 3, with_over)
        with_two_speakers = wordy(20)
        with_two_speakers[4][0] = 2
        self.answers([1, 0, 4], 3, with_two_speakers)

    def test_sixty_four_states_are_not_too_many(self):
        self.answers([0], 3, shifting(6, 0))
        self.answers([0], 3, shifting(5, 25))

    def test_a_state_found_again_by_other_ways_is_the_same(self):
        # The same 64 states, whether the script begins at the first of the line or at the choice, place 7,
        # and in whatever order the others are numbered.
        s = shifting(6, 0)
        for order in ((0, 7, 6, 5, 4, 3, 2, 1), (1, 2, 3, 4, 5, 6, 7, 0), (7, 6, 5, 4, 3, 2, 1, 0),
                      (4, 2, 7, 1, 5, 3, 6, 0)):
            self.answers([0], 3, renumbered(s, order))

    def test_a_sixty_fifth_state(self):
        self.answers([-75], 3, shifting(6, 1))
        self.answers([-75], 3, shifting(7, 0))
        self.answers([-75], 3, shifting(20, 0))

    def test_the_states_of_different_parties_are_counted_apart(self):
        s = [[0, 1, 1, (k + 1) % 32] for k in range(32)]
        self.answers([0], 8, s)

    def test_too_much_at_a_lower_party_than_a_state_that_is_not_clear(self):
        s = [[1, 2, 4, 1, 5, 2], [1, 3, 1, 3], [2, 3, 1, 3]]
        for rest in (wordy(17), shifting(6, 1)):
            whole = s + moved(rest, 3)
            self.answers([-75], 4, whole)
            self.answers([1, 0, 4], 4, with_parties(whole, (3, 1, 2, 0)))

    def shifting_with_fault(self, q):
        """Behind word 0 at place q 0 doesn't know which of two will speak; there would be more than 64 states."""
        s = shifting(10, 0)
        n = len(s)
        s[q] = s[q] + [0, n]
        return s + [[1, 2, 1, n + 1, 2, n + 2], [1, 0, 1, 255], [2, 0, 1, 255]]

    def test_a_state_that_is_not_clear_ahead_of_one_with_a_65th_behind_it(self):
        self.answers([1, 0, 4], 3, self.shifting_with_fault(4))

    def test_a_65th_behind_a_state_ahead_of_one_that_is_found_but_not_clear(self):
        # State 31 is the first with place 5 in it: behind its word 0 is state 63, which is not clear,
        # and behind its word 1 would be the 65th.
        self.answers([-75], 3, self.shifting_with_fault(5))


class Corners(CheckTest):
    def test_two_parties(self):
        self.answers([0], 2, [[0, 1, 1, 255]])
        self.answers([0], 2, [[1, 0, 1, 255]])
        s = [[0, 1, 1, 1, 2, 2, 3, 255, 4, 0], [1, 0, 1, 0, 2, 2], [0, 1, 7, 255]]
        self.answers([0], 2, s)

    def test_a_place_whose_words_all_lead_back_to_it(self):
        self.answers([0], 2, [[0, 1, 1, 0]])
        self.answers([0], 3, [[0, 1, 1, 0, 2, 0, 3, 0, 4, 0], [2, 0, 1, 255]])

    def test_over_behind_one_word_and_more_behind_another(self):
        self.answers([0], 2, [[0, 1, 1, 255, 2, 1], [1, 0, 1, 0]])
        self.answers([0], 3, [[0, 1, 1, 1, 2, 2], [0, 2, 1, 255], [0, 2, 2, 0]])
        self.answers([1, 1, 1], 3, [[0, 2, 1, 255, 2, 1], [0, 1, 1, 0]])

    def test_a_party_that_is_at_no_place(self):
        self.answers([0], 3, [[1, 2, 1, 255]])
        self.answers([0], 8, [[3, 5, 1, 0, 2, 255]])

    def test_a_ring_in_which_one_is_never_heard(self):
        self.answers([0], 3, [[0, 1, 1, 1], [1, 0, 1, 0]])
        self.answers([0], 3, [[0, 2, 1, 1], [0, 1, 1, 2], [1, 0, 1, 1]])

    def test_a_ring_with_a_way_out_to_over(self):
        self.answers([0], 3, [[0, 1, 1, 1, 2, 255], [1, 0, 1, 0]])

    def test_a_ring_with_a_way_out_to_the_one(self):
        self.answers([0], 3, [[0, 1, 1, 1, 2, 2], [1, 0, 1, 0], [0, 2, 1, 255]])
        self.answers([0], 3, [[0, 1, 1, 0, 2, 1], [0, 2, 1, 255]])

    def test_a_ring_with_a_way_out_to_the_one_and_to_over(self):
        s = [[0, 1, 1, 1, 2, 2], [1, 0, 1, 0, 2, 255], [0, 2, 1, 255]]
        self.answers([1, 2, 1], 3, s)

    def test_a_ring_beside_a_place_of_the_one(self):
        self.answers([1, 2, 1], 3, [[0, 1, 1, 1, 2, 2], [0, 1, 1, 1], [0, 2, 1, 255]])

    def test_a_ring_some_places_further_on(self):
        s = [[0, 1, 1, 1, 2, 2], [1, 0, 1, 3], [0, 2, 1, 255], [0, 1, 1, 4], [1, 0, 1, 5], [0, 1, 1, 4]]
        self.answers([1, 2, 1], 3, s)

    def test_a_ring_without_a_way_out_inside_one_that_has_one(self):
        s = [[0, 1, 1, 1, 2, 2], [1, 0, 1, 0, 2, 3], [0, 2, 1, 255], [1, 0, 1, 3]]
        self.answers([1, 2, 1], 3, s)

    def test_a_ring_only_behind_the_place_of_the_one(self):
        s = [[0, 1, 1, 1], [0, 2, 1, 2], [0, 1, 1, 2]]
        self.answers([0], 3, s)

    def test_a_ring_that_goes_through_the_place_of_the_one(self):
        self.answers([0], 3, [[0, 1, 1, 1], [0, 2, 1, 0]])

    def test_an_endless_ring_or_over_is_over(self):
        self.answers([0], 3, [[0, 1, 1, 0, 2, 1, 3, 255], [1, 0, 1, 1]])

    def test_the_same_word_behind_two_places(self):
        def two_ways(third, fourth):
            return [[0, 1, 1, 1, 2, 2], [0, 2, 5, 3], [0, 2, 5, 4], third, fourth]

        self.answers([0], 3, two_ways([2, 0, 1, 255], [2, 0, 1, 255]))
        self.answers([0], 3, two_ways([0, 2, 1, 255], [0, 2, 2, 255]))
        self.answers([1, 2, 2], 3, two_ways([2, 0, 1, 255], [0, 2, 1, 255]))
        self.answers([1, 2, 3], 3, two_ways([2, 0, 1, 255], [2, 1, 1, 255]))
        self.answers([1, 2, 4], 3, two_ways([0, 2, 1, 255], [1, 2, 1, 255]))
        self.answers([1, 2, 1], 3, two_ways([0, 2, 1, 255], [0, 1, 1, 255]))

    def test_different_words_at_two_places_tell_them_apart(self):
        s = [[0, 1, 1, 1, 2, 2], [0, 2, 5, 3], [0, 2, 6, 4], [2, 0, 1, 255], [0, 2, 1, 255]]
        self.answers([0], 3, s)

    def test_the_same_word_said_at_two_places(self):
        s = [[0, 1, 1, 1, 2, 2], [2, 0, 5, 3], [2, 0, 5, 4], [2, 1, 1, 255], [1, 2, 1, 255]]
        self.answers([1, 2, 2], 3, s)

    def test_thirty_two_places_in_a_row(self):
        s = [[k % 2, 1 - k % 2, 1, k + 1] for k in range(31)] + [[1, 0, 1, 255]]
        self.answers([0], 2, s)
        s[31] = [1, 2, 1, 255]
        self.answers([0], 3, s)
        s[0] = [0, 1, 1, 1, 2, 255]
        self.answers([1, 2, 1], 3, s)

    def test_thirty_two_places_in_a_ring(self):
        s = [[k % 8, (k + 1) % 8, 1, (k + 1) % 32] for k in range(32)]
        self.answers([0], 8, s)

    def test_thirty_two_places_with_four_ways_each(self):
        s = [[0, 1] + [x for j in range(4) for x in (j, (5 * k + 7 * j + 1) % 32)] for k in range(32)]
        self.answers([0], 8, s)


class HowItIsCalled(CheckTest):
    scripts = [
        (2, [[0, 1, 1, 1], [1, 0, 2, 255]]),
        (3, branching([2, 0, 1, 255], [0, 2, 1, 255])),
        (1, [[0, 1, 1, 255]]),
        (2, [[0, 1, 2, 255, 1, 255, 1, 0]]),
        (3, wordy(17)),
        (3, shifting(6, 0)),
        (3, shifting(6, 1)),
    ]

    def test_what_is_handed_in_stays_as_it_was(self):
        for p, s in self.scripts:
            before = copy.deepcopy(s)
            check(p, s)
            self.assertEqual(s, before)

    def test_nothing_is_changed_for_a_while_either(self):
        for p, s in self.scripts:
            held = Unchangeable([Unchangeable(place) for place in s])
            self.assertEqual(check(p, held), check(p, s))

    def test_a_second_call_answers_as_the_first(self):
        first = [check(p, s) for p, s in self.scripts]
        self.assertEqual(first, [[0], [1, 2, 2], [-22], [-22], [-75], [0], [-75]])
        for p, s in reversed(self.scripts):
            check(p, s)
        for answer in [check(p, s) for p, s in self.scripts]:
            answer.append("changed by the caller")
        self.assertEqual([check(p, s) for p, s in self.scripts], first)

    def test_it_answers_a_list_of_whole_numbers(self):
        for p, s in self.scripts:
            answer = check(p, s)
            self.assertIs(type(answer), list)
            self.assertEqual({type(x) for x in answer}, {int})

    def test_it_prints_nothing(self):
        out, err = io.StringIO(), io.StringIO()
        with contextlib.redirect_stdout(out), contextlib.redirect_stderr(err):
            for p, s in self.scripts:
                check(p, s)
        self.assertEqual((out.getvalue(), err.getvalue()), ("", ""))


if __name__ == "__main__":
    unittest.main()
