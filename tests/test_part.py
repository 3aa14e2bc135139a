"""part, point 2 of the document, by written scripts.

A place is written as the interface tells it: from, to, and then word and next of each way; next 255 is over.
A row is written as kind, other and then pairs of a word and the number of the state behind it.
"""

import contextlib
import copy
import io
import unittest

from helper import Unchangeable, branching, flat, moved, renumbered, rows_of, shifting, with_parties, wordy
from partscript.parts import check, part

ASKED = [[0, 1, 1, 1], [1, 0, 2, 255]]
NOTHING = (0, 0)


def sixteen_words():
    s = wordy(17)
    s[6] = [1, 0, 15, 255]
    return s


class PartTest(unittest.TestCase):
    def party(self, p, c, s, *rows):
        self.assertEqual(part(p, c, s), flat(*rows), (p, c, s))

    def refuses(self, number, p, s):
        """For whichever party."""
        for c in range(p):
            self.assertEqual(part(p, c, s), [number], (p, c, s))


class Ordinary(PartTest):
    def test_number_by_number(self):
        self.assertEqual(part(2, 0, ASKED), [3, 1, 1, 1, 1, 1, 2, 1, 1, 2, 2, 0, 0, 0])
        self.assertEqual(part(2, 1, ASKED), [3, 2, 0, 1, 1, 1, 1, 0, 1, 2, 2, 0, 0, 0])

    def test_number_by_number_with_several_words(self):
        s = [[0, 1, 4, 0, 3, 255, 2, 1], [1, 0, 9, 255]]
        self.assertEqual(part(2, 0, s), [3, 1, 1, 3, 2, 1, 3, 2, 4, 0, 2, 1, 1, 9, 2, 0, 0, 0])
        self.assertEqual(part(2, 1, s), [3, 2, 0, 3, 2, 1, 3, 2, 4, 0, 1, 0, 1, 9, 2, 0, 0, 0])

    def test_round_of_three(self):
        s = [[0, 1, 1, 1], [1, 2, 1, 2], [2, 0, 1, 255]]
        self.party(3, 0, s, (1, 1, (1, 1)), (2, 2, (1, 2)), NOTHING)
        self.party(3, 1, s, (2, 0, (1, 1)), (1, 2, (1, 2)), NOTHING)
        self.party(3, 2, s, (2, 1, (1, 1)), (1, 0, (1, 2)), NOTHING)

    def test_choice_told_on_by_its_hearer(self):
        s = [[0, 1, 1, 1, 2, 2], [1, 2, 1, 3], [1, 2, 2, 4], [2, 0, 5, 255], [2, 1, 5, 255]]
        self.party(3, 0, s, (1, 1, (1, 1), (2, 2)), (2, 2, (5, 2)), NOTHING)
        self.party(3, 1, s, (2, 0, (1, 1), (2, 2)), (1, 2, (1, 3)), (1, 2, (2, 4)), NOTHING, (2, 2, (5, 3)))
        self.party(3, 2, s, (2, 1, (1, 1), (2, 2)), (1, 0, (5, 3)), (1, 1, (5, 3)), NOTHING)

    def test_listening_at_places_with_different_words(self):
        s = branching([0, 2, 1, 255], [0, 2, 2, 255, 3, 255])
        self.party(3, 0, s, (1, 1, (1, 1), (2, 2)), (1, 2, (1, 3)), (1, 2, (2, 3), (3, 3)), NOTHING)
        self.party(3, 1, s, (2, 0, (1, 1), (2, 1)), NOTHING)
        self.party(3, 2, s, (2, 0, (1, 1), (2, 1), (3, 1)), NOTHING)

    def test_speaking_at_places_with_the_same_words_in_another_order(self):
        s = branching([2, 0, 1, 0, 2, 3], [2, 0, 2, 3, 1, 0]) + [[0, 1, 9, 255]]
        asked = (2, 2, (1, 0), (2, 3))
        self.party(3, 0, s, (1, 1, (1, 1), (2, 2)), asked, asked, (1, 1, (9, 4)), NOTHING)
        self.party(3, 1, s, (2, 0, (1, 1), (2, 1)), (2, 0, (1, 1), (2, 1), (9, 2)), NOTHING)
        self.party(3, 2, s, (1, 0, (1, 0), (2, 1)), NOTHING)

    def test_eight_parties(self):
        s = [[c, c + 1, 1, c + 1] for c in range(7)] + [[7, 0, 1, 255]]
        self.party(8, 0, s, (1, 1, (1, 1)), (2, 7, (1, 2)), NOTHING)
        for c in range(1, 8):
            self.party(8, c, s, (2, c - 1, (1, 1)), (1, (c + 1) % 8, (1, 2)), NOTHING)

    def test_a_place_never_come_to_makes_no_state(self):
        s = [[0, 1, 1, 255], [0, 1, 1, 2, 2, 255], [1, 2, 1, 255]]
        self.party(3, 0, s, (1, 1, (1, 1)), NOTHING)
        self.party(3, 1, s, (2, 0, (1, 1)), NOTHING)
        self.party(3, 2, s, NOTHING)

    def test_two_places_alike_are_two_states(self):
        s = [[0, 1, 1, 1], [0, 1, 1, 255]]
        self.party(2, 0, s, (1, 1, (1, 1)), (1, 1, (1, 2)), NOTHING)
        self.party(2, 1, s, (2, 0, (1, 1)), (2, 0, (1, 2)), NOTHING)


class InWhichOrder(PartTest):
    def test_words_rise_in_whatever_order_they_are_written(self):
        s = [[0, 1, 9, 1, 3, 2, 7, 255, 5, 0], [1, 0, 2, 255], [1, 0, 2, 0, 1, 1]]
        self.party(2, 0, s, (1, 1, (3, 1), (5, 0), (7, 2), (9, 3)), (2, 1, (1, 3), (2, 0)), NOTHING, (2, 1, (2, 2)))
        self.party(2, 1, s, (2, 0, (3, 1), (5, 0), (7, 2), (9, 3)), (1, 0, (1, 3), (2, 0)), NOTHING, (1, 0, (2, 2)))

    def test_words_rise_over_several_places(self):
        s = branching([0, 2, 8, 255, 2, 255], [0, 2, 9, 255, 1, 255])
        self.party(3, 2, s, (2, 0, (1, 1), (2, 1), (8, 1), (9, 1)), NOTHING)

    def test_words_rise_as_numbers(self):
        self.party(2, 0, [[0, 1, 255, 0, 0, 255]], (1, 1, (0, 1), (255, 0)), NOTHING)
        self.party(2, 0, [[0, 1, 100, 0, 20, 255, 3, 0, 10, 0]], (1, 1, (3, 0), (10, 0), (20, 1), (100, 0)), NOTHING)

    def test_states_as_they_are_found_not_as_their_places_are_numbered(self):
        s = [[0, 1, 1, 3, 2, 1], [0, 1, 7, 255], [0, 1, 6, 255], [0, 1, 5, 2]]
        rows = [((1, 1), (2, 2)), ((5, 3),), ((7, 4),), ((6, 4),)]
        self.party(2, 0, s, *[(1, 1) + words for words in rows], NOTHING)
        self.party(2, 1, s, *[(2, 0) + words for words in rows], NOTHING)

    def test_all_behind_one_state_come_ahead_of_what_is_behind_the_next(self):
        s = [[0, 1, 1, 1, 2, 2], [0, 1, 1, 3, 2, 4], [0, 1, 1, 5, 2, 6]] + [[0, 1, 1, 255]] * 4
        rows = [(1, 1, (1, 1), (2, 2)), (1, 1, (1, 3), (2, 4)), (1, 1, (1, 5), (2, 6))] + [(1, 1, (1, 7))] * 4
        self.party(2, 0, s, *rows, NOTHING)

    def test_however_the_places_are_numbered(self):
        s = [[0, 1, 1, 1, 2, 2], [1, 2, 1, 3], [1, 2, 2, 4], [2, 0, 5, 255], [2, 1, 5, 255]]
        for order in ((0, 4, 3, 2, 1), (0, 2, 1, 4, 3), (0, 3, 1, 4, 2), (0, 1, 2, 3, 5)):
            other = renumbered(s, order)
            other = [[0, 1, 1, 255] if place is None else place for place in other]
            for c in range(3):
                self.assertEqual(part(3, c, other), part(3, c, s))


class NoScript(PartTest):
    def test_p(self):
        for p in (0, 1, 9, 10, 255, 256, 258, 4294967295):
            for c in (0, 1, 2, 8, 9, 255, 4294967295):
                self.assertEqual(part(p, c, ASKED), [-22], (p, c))

    def test_every_p_that_is_allowed(self):
        for p in (2, 3, 4, 5, 6, 7, 8):
            self.party(p, 0, ASKED, (1, 1, (1, 1)), (2, 1, (2, 2)), NOTHING)
            self.party(p, 1, ASKED, (2, 0, (1, 1)), (1, 0, (2, 2)), NOTHING)
            for c in range(2, p):
                self.party(p, c, ASKED, NOTHING)

    def test_c_is_not_below_p(self):
        for p in range(2, 9):
            for c in (p, p + 1, 9, 255, 256, 257, 65536, 4294967295):
                self.assertEqual(part(p, c, ASKED), [-22], (p, c))

    def test_c_is_not_below_p_comes_ahead_of_what_check_tells(self):
        unkept = branching([2, 0, 1, 255], [0, 2, 1, 255])
        self.refuses(-71, 3, unkept)
        for s in (unkept, wordy(17), shifting(6, 1)):
            for c in (3, 4, 8, 255, 4294967295):
                self.assertEqual(part(3, c, s), [-22])

    def test_from_or_to_not_below_p(self):
        for p, party in ((2, 2), (2, 3), (2, 255), (7, 7), (8, 8)):
            self.refuses(-22, p, [[party, 1, 1, 255]])
            self.refuses(-22, p, [[0, party, 1, 255]])

    def test_from_the_same_as_to(self):
        self.refuses(-22, 2, [[0, 0, 1, 255]])
        self.refuses(-22, 2, [[1, 1, 1, 255]])

    def test_a_word_twice_at_a_place(self):
        self.refuses(-22, 2, [[0, 1, 1, 255, 1, 255]])
        self.refuses(-22, 2, [[0, 1, 1, 0, 1, 255]])
        self.refuses(-22, 2, [[0, 1, 1, 255, 2, 255, 1, 255]])
        self.refuses(-22, 2, [[0, 1, 1, 255, 2, 255, 3, 255, 2, 255]])

    def test_a_next_that_is_neither_a_place_nor_over(self):
        for target in (1, 2, 31, 32, 254):
            self.refuses(-22, 2, [[0, 1, 1, target]])
            self.refuses(-22, 2, [[0, 1, 1, 255, 2, 255, 3, 255, 4, target]])
        self.refuses(-22, 2, [[0, 1, 1, 32]] * 32)

    def test_a_place_never_come_to_counts(self):
        for place in ([2, 1, 1, 255], [0, 2, 1, 255], [1, 1, 1, 255], [0, 1, 1, 255, 1, 0], [0, 1, 1, 2]):
            self.refuses(-22, 2, [[0, 1, 1, 255], place])

    def test_how_many_numbers_a_place_has(self):
        for place in ([0, 1, 1, 255, 2], [0, 1, 1, 0, 2, 0, 3], [0, 1, 1, 0, 2, 0, 3, 0, 4]):
            self.refuses(-22, 2, [place])

    def test_ahead_of_what_check_tells(self):
        self.refuses(-22, 3, branching([2, 0, 1, 255], [0, 2, 1, 255]) + [[0, 1, 1, 4]])
        self.refuses(-22, 3, wordy(17) + [[0, 1, 1, 99]])
        self.refuses(-22, 3, shifting(6, 1) + [[0, 0, 1, 255]])


class CannotBeKept(PartTest):
    def test_each_fault_whichever_party_asks(self):
        faults = (
            (1, [[0, 1, 1, 255, 2, 1], [1, 2, 1, 255]]),
            (2, branching([2, 0, 1, 255], [0, 2, 1, 255])),
            (3, branching([2, 0, 1, 255], [2, 1, 1, 255])),
            (3, branching([2, 0, 1, 255], [2, 0, 2, 255])),
            (4, branching([0, 2, 1, 255], [1, 2, 1, 255])),
        )
        for number, s in faults:
            for parties in ((0, 1, 2), (2, 1, 0), (0, 2, 1), (1, 2, 0)):
                other = with_parties(s, parties)
                self.assertEqual(check(3, other), [1, parties[2], number])
                self.refuses(-71, 3, other)

    def test_the_one_at_a_loss_is_far_from_the_one_who_asks(self):
        self.refuses(-71, 8, branching([7, 0, 1, 255], [0, 7, 1, 255]))

    def test_a_later_state_is_not_clear(self):
        s = [[0, 2, 1, k + 1] for k in range(20)] + [[0, 1, 1, 21, 2, 22], [2, 0, 1, 255], [0, 2, 1, 255]]
        self.refuses(-71, 3, s)

    def test_a_ring_beside_a_place(self):
        self.refuses(-71, 3, [[0, 1, 1, 1, 2, 2], [0, 1, 1, 1], [0, 2, 1, 255]])

    def test_a_state_that_is_not_clear_has_no_words_to_count(self):
        s = wordy(20)
        s[1] += [3, 255]
        self.refuses(-71, 3, s)


class TooMuch(PartTest):
    def test_more_than_sixteen_words(self):
        for count in (17, 18, 19, 20):
            self.refuses(-75, 3, wordy(count))
            self.refuses(-75, 3, with_parties(wordy(count), (2, 0, 1)))
            self.refuses(-75, 8, with_parties(wordy(count), (7, 3, 0)))

    def test_a_65th_state(self):
        for s in (shifting(6, 1), shifting(7, 0), shifting(20, 0)):
            self.refuses(-75, 3, s)
            self.refuses(-75, 3, with_parties(s, (2, 0, 1)))
            self.refuses(-75, 8, with_parties(s, (7, 3, 0)))

    def test_as_check_does_it_is_the_first_trouble_that_counts(self):
        s = [[1, 2, 4, 1, 5, 2], [1, 3, 1, 3], [2, 3, 1, 3]]
        for rest in (wordy(17), shifting(6, 1)):
            whole = s + moved(rest, 3)
            self.refuses(-75, 4, whole)
            self.refuses(-71, 4, with_parties(whole, (3, 1, 2, 0)))

    def test_just_sixteen_words(self):
        s = sixteen_words()
        self.party(3, 0, s, (2, 1) + tuple((word, 1) for word in range(16)), NOTHING)
        self.party(3, 2, s, (2, 1, (1, 1), (2, 1), (3, 1), (4, 2)), NOTHING, (2, 1, (1, 1), (2, 1)))
        self.assertEqual(rows_of(part(3, 1, s))[0], (1, 2, (1, 1), (2, 2), (3, 3), (4, 4)))

    def test_just_sixty_four_states(self):
        # A set of places 1 to 6 is written as a number: place 1 is its lowest bit, and each word shifts it.
        found = [0]
        for mask in found:
            found += [x for x in (mask * 2 % 64 + 1, mask * 2 % 64) if x not in found]
        rows = [(2, 1, (1, found.index(x * 2 % 64 + 1)), (2, found.index(x * 2 % 64))) for x in found]
        self.assertEqual(len(rows), 64)
        s = shifting(6, 0)
        for order in ((0, 1, 2, 3, 4, 5, 6, 7), (0, 7, 6, 5, 4, 3, 2, 1), (0, 4, 2, 7, 1, 5, 3, 6)):
            self.party(3, 0, renumbered(s, order), *rows)

    def test_many_states_behind_a_long_row_of_places(self):
        rows = rows_of(part(3, 0, shifting(5, 25)))
        self.assertEqual(len(rows), 25 + 32)
        self.assertEqual(rows[:25], [(2, 1, (1, k + 1)) for k in range(25)])
        self.assertEqual(rows[25], (2, 1, (1, 26), (2, 25)))


class Corners(PartTest):
    def test_two_parties(self):
        s = [[1, 0, 1, 255]]
        self.party(2, 0, s, (2, 1, (1, 1)), NOTHING)
        self.party(2, 1, s, (1, 0, (1, 1)), NOTHING)
        s = [[0, 1, 1, 1, 2, 2, 3, 255, 4, 0], [1, 0, 1, 0, 2, 2], [0, 1, 7, 255]]
        self.party(2, 0, s, (1, 1, (1, 1), (2, 2), (3, 3), (4, 0)), (2, 1, (1, 0), (2, 2)), (1, 1, (7, 3)), NOTHING)
        self.party(2, 1, s, (2, 0, (1, 1), (2, 2), (3, 3), (4, 0)), (1, 0, (1, 0), (2, 2)), (2, 0, (7, 3)), NOTHING)

    def test_a_place_whose_words_all_lead_back_to_it(self):
        self.assertEqual(part(2, 0, [[0, 1, 1, 0]]), [1, 1, 1, 1, 1, 0])
        self.assertEqual(part(2, 1, [[0, 1, 1, 0]]), [1, 2, 0, 1, 1, 0])
        s = [[0, 1, 1, 0, 2, 0, 3, 0, 4, 0], [2, 0, 1, 255]]
        self.party(3, 0, s, (1, 1, (1, 0), (2, 0), (3, 0), (4, 0)))
        self.party(3, 1, s, (2, 0, (1, 0), (2, 0), (3, 0), (4, 0)))
        self.party(3, 2, s, NOTHING)

    def test_over_behind_one_word_and_more_behind_another(self):
        s = [[0, 1, 1, 255, 2, 1], [1, 0, 1, 0]]
        self.party(2, 0, s, (1, 1, (1, 1), (2, 2)), NOTHING, (2, 1, (1, 0)))
        self.party(2, 1, s, (2, 0, (1, 1), (2, 2)), NOTHING, (1, 0, (1, 0)))
        s = [[0, 1, 1, 1, 2, 2], [0, 2, 1, 255], [0, 2, 2, 0]]
        self.party(3, 0, s, (1, 1, (1, 1), (2, 2)), (1, 2, (1, 3)), (1, 2, (2, 0)), NOTHING)
        self.party(3, 1, s, (2, 0, (1, 1), (2, 0)), NOTHING)
        self.party(3, 2, s, (2, 0, (1, 1), (2, 0)), NOTHING)

    def test_a_party_that_is_at_no_place(self):
        self.assertEqual(part(3, 0, [[1, 2, 1, 255]]), [1, 0, 0, 0])
        for c in (0, 1, 2, 4, 6, 7):
            self.party(8, c, [[3, 5, 1, 0, 2, 255]], NOTHING)
        self.party(3, 2, [[0, 1, 1, 0]], NOTHING)

    def test_a_ring_in_which_one_is_never_heard(self):
        s = [[0, 1, 1, 1], [1, 0, 1, 0]]
        self.party(3, 0, s, (1, 1, (1, 1)), (2, 1, (1, 0)))
        self.party(3, 1, s, (2, 0, (1, 1)), (1, 0, (1, 0)))
        self.party(3, 2, s, NOTHING)

    def test_a_ring_behind_the_place_of_the_one(self):
        s = [[0, 2, 1, 1], [0, 1, 1, 2], [1, 0, 1, 1]]
        self.party(3, 0, s, (1, 2, (1, 1)), (1, 1, (1, 2)), (2, 1, (1, 1)))
        self.party(3, 1, s, (2, 0, (1, 1)), (1, 0, (1, 0)))
        self.party(3, 2, s, (2, 0, (1, 1)), NOTHING)

    def test_a_ring_with_a_way_out_to_over(self):
        s = [[0, 1, 1, 1, 2, 255], [1, 0, 1, 0]]
        self.party(3, 0, s, (1, 1, (1, 1), (2, 2)), (2, 1, (1, 0)), NOTHING)
        self.party(3, 1, s, (2, 0, (1, 1), (2, 2)), (1, 0, (1, 0)), NOTHING)
        self.party(3, 2, s, NOTHING)

    def test_a_ring_with_a_way_out_to_the_one(self):
        s = [[0, 1, 1, 1, 2, 2], [1, 0, 1, 0], [0, 2, 1, 255]]
        self.party(3, 0, s, (1, 1, (1, 1), (2, 2)), (2, 1, (1, 0)), (1, 2, (1, 3)), NOTHING)
        self.party(3, 1, s, (2, 0, (1, 1), (2, 2)), (1, 0, (1, 0)), NOTHING)
        self.party(3, 2, s, (2, 0, (1, 1)), NOTHING)

    def test_an_endless_ring_or_over_is_over(self):
        self.party(3, 2, [[0, 1, 1, 0, 2, 1, 3, 255], [1, 0, 1, 1]], NOTHING)

    def test_an_endless_ring_behind_one_word_and_over_behind_another_are_one_state(self):
        s = [[0, 2, 1, 1, 2, 2], [0, 1, 1, 255], [0, 1, 2, 2]]
        self.party(3, 2, s, (2, 0, (1, 1), (2, 1)), NOTHING)
        self.party(3, 1, s, (2, 0, (1, 1), (2, 2)), NOTHING, (2, 0, (2, 2)))
        self.party(3, 0, s, (1, 2, (1, 1), (2, 2)), (1, 1, (1, 3)), (1, 1, (2, 2)), NOTHING)

    def test_the_same_word_behind_two_places(self):
        s = branching([0, 2, 5, 3], [0, 2, 5, 4]) + [[0, 2, 1, 255], [0, 2, 2, 255]]
        rows = [(1, 1, (1, 1), (2, 2)), (1, 2, (5, 3)), (1, 2, (5, 4)), (1, 2, (1, 5)), (1, 2, (2, 5))]
        self.party(3, 0, s, *rows, NOTHING)
        self.party(3, 1, s, (2, 0, (1, 1), (2, 1)), NOTHING)
        self.party(3, 2, s, (2, 0, (5, 1)), (2, 0, (1, 2), (2, 2)), NOTHING)

    def test_a_word_that_only_one_of_two_places_has(self):
        s = branching([0, 2, 5, 255, 6, 1], [0, 2, 5, 255])
        self.party(3, 0, s, (1, 1, (1, 1), (2, 2)), (1, 2, (5, 3), (6, 1)), (1, 2, (5, 3)), NOTHING)
        self.party(3, 1, s, (2, 0, (1, 1), (2, 1)), NOTHING)
        self.party(3, 2, s, (2, 0, (5, 1), (6, 2)), NOTHING, (2, 0, (5, 1), (6, 2)))

    def test_thirty_two_places_in_a_row(self):
        s = [[k % 2, 1 - k % 2, 1, k + 1] for k in range(31)] + [[1, 0, 1, 255]]
        for c in range(2):
            rows = [(1 if k % 2 == c else 2, 1 - c, (1, k + 1)) for k in range(32)]
            self.party(2, c, s, *rows, NOTHING)
        self.party(3, 2, s, NOTHING)

    def test_thirty_two_places_in_a_ring(self):
        s = [[k % 8, (k + 1) % 8, 1, (k + 1) % 32] for k in range(32)]
        self.party(8, 0, s, *[(1, 1, (1, k + 1)) if k % 2 == 0 else (2, 7, (1, (k + 1) % 8)) for k in range(8)])
        for c in range(1, 8):
            speaks, listens = (1, (c + 1) % 8), (2, c - 1)
            self.party(8, c, s, *[(speaks if k % 2 else listens) + ((1, (k + 1) % 8),) for k in range(8)])

    def test_thirty_two_places_the_last_one_the_only_one_of_a_party(self):
        s = [[0, 1, 1, k + 1] for k in range(31)] + [[0, 2, 7, 255]]
        self.party(3, 2, s, (2, 0, (7, 1)), NOTHING)
        self.party(3, 1, s, *[(2, 0, (1, k + 1)) for k in range(31)], NOTHING)


class HowItIsCalled(PartTest):
    calls = [
        (2, 0, ASKED),
        (2, 1, ASKED),
        (2, 2, ASKED),
        (3, 2, ASKED),
        (3, 1, branching([2, 0, 1, 255], [0, 2, 1, 255])),
        (1, 0, [[0, 1, 1, 255]]),
        (2, 0, [[0, 1, 2, 255, 1, 255, 1, 0]]),
        (3, 1, wordy(17)),
        (3, 0, shifting(6, 0)),
        (3, 2, shifting(6, 1)),
    ]

    def test_what_is_handed_in_stays_as_it_was(self):
        for p, c, s in self.calls:
            before = copy.deepcopy(s)
            part(p, c, s)
            self.assertEqual(s, before)

    def test_nothing_is_changed_for_a_while_either(self):
        for p, c, s in self.calls:
            held = Unchangeable([Unchangeable(place) for place in s])
            self.assertEqual(part(p, c, held), part(p, c, s))

    def test_a_second_call_answers_as_the_first(self):
        first = [part(*call) for call in self.calls]
        self.assertEqual([answer[0] for answer in first], [3, 3, -22, 1, -71, -22, -22, -75, 64, -75])
        for p, c, s in reversed(self.calls):
            check(p, s)
            part(p, c, s)
        for answer in [part(*call) for call in self.calls]:
            answer.append("changed by the caller")
        self.assertEqual([part(*call) for call in self.calls], first)

    def test_it_answers_a_list_of_whole_numbers(self):
        for call in self.calls:
            answer = part(*call)
            self.assertIs(type(answer), list)
            self.assertEqual({type(x) for x in answer}, {int})

    def test_a_refusal_is_its_number_alone(self):
        for call in self.calls:
            answer = part(*call)
            if answer[0] < 0:
                self.assertEqual(len(answer), 1)

    def test_the_arguments_bear_the_names_of_the_interface(self):
        self.assertEqual(part(p=2, c=0, s=ASKED), part(2, 0, ASKED))

    def test_it_prints_nothing(self):
        out, err = io.StringIO(), io.StringIO()
        with contextlib.redirect_stdout(out), contextlib.redirect_stderr(err):
            for call in self.calls:
                part(*call)
        self.assertEqual((out.getvalue(), err.getvalue()), ("", ""))


if __name__ == "__main__":
    unittest.main()
