"""part against the document's words taken one by one, over all scripts of a small form and over many mixed ones."""

import unittest

import helper
from partscript.parts import part


def parts_by_definition(p, s):
    """What part answers for each party."""
    first = helper.check_by_definition(p, s)[0]
    if first == 1:
        return [[-71]] * p
    if first == -75:
        return [[-75]] * p
    return [helper.flat(*helper.party_by_definition(c, s)[1]) for c in range(p)]


class ByDefinition(unittest.TestCase):
    def compare(self, scripts):
        """How many scripts there are of each refusal (0: that can be kept), after every part was compared."""
        counts = {}
        for p, s in scripts:
            expected = parts_by_definition(p, s)
            self.assertEqual([part(p, c, s) for c in range(p)], expected, (p, s))
            first = min(expected[0][0], 0)
            counts[first] = counts.get(first, 0) + 1
        return counts

    def test_all_scripts_of_one_and_of_two_small_places(self):
        self.assertGreater(self.compare(helper.small_scripts())[0], 4000)

    def test_all_scripts_of_a_choice_and_two_small_places_behind_it(self):
        counts = self.compare(helper.choice_scripts())
        self.assertGreater(counts[0], 4000)
        self.assertGreater(counts[-71], 4000)

    def test_mixed_scripts(self):
        counts = self.compare(helper.mixed_scripts(3000))
        self.assertGreater(counts[0], 500)
        self.assertGreater(counts[-71], 500)

    def test_scripts_with_many_states(self):
        counts = self.compare(helper.scripts_with_many_states(200))
        self.assertEqual(set(counts), {0, -71, -75})

    def test_scripts_with_many_words(self):
        counts = self.compare(helper.scripts_with_many_words(200))
        self.assertEqual(set(counts), {0, -71, -75})


if __name__ == "__main__":
    unittest.main()
