"""check against the document's words taken one by one, over all scripts of a small form and over many mixed ones."""

import unittest

import helper
from partscript.parts import check


class ByDefinition(unittest.TestCase):
    def seen_in(self, scripts):
        """All that check answers over the scripts but the party, after it was compared."""
        seen = set()
        for p, s in scripts:
            expected = helper.check_by_definition(p, s)
            self.assertEqual(check(p, s), expected, (p, s))
            seen.add(expected[0] if expected[0] != 1 else (1, expected[2]))
        return seen

    def test_all_scripts_of_one_and_of_two_small_places(self):
        self.assertEqual(self.seen_in(helper.small_scripts()), {0, (1, 1)})

    def test_all_scripts_of_a_choice_and_two_small_places_behind_it(self):
        self.assertEqual(self.seen_in(helper.choice_scripts()), {0, (1, 1), (1, 2), (1, 3), (1, 4)})

    def test_mixed_scripts(self):
        self.assertEqual(self.seen_in(helper.mixed_scripts(6000)), {0, (1, 1), (1, 2), (1, 3), (1, 4)})

    def test_scripts_with_many_states(self):
        self.assertLessEqual({0, -75}, self.seen_in(helper.scripts_with_many_states(400)))

    def test_scripts_with_many_words(self):
        self.assertLessEqual({0, -75}, self.seen_in(helper.scripts_with_many_words(400)))


if __name__ == "__main__":
    unittest.main()
