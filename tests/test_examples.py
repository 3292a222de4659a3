"""Each example of the document, as it stands there."""

import unittest

from rowcoders.back import count_rows, first_row
from rowcoders.coders import code_of, family
from rowcoders.desk import Desk
from rowcoders.hidden import best_sign, fewest_signs
from rowcoders.lengths import count_lengths, row_of_length
from rowcoders.likeness import failing_row, parting_row, same_as
from rowcoders.naive import naive_twins
from rowcoders.rates import greatest_rate
from rowcoders.reading import could_code, could_write
from rowcoders.texts import format_chain, parse_row
from rowcoders.twins import twins


class Examples(unittest.TestCase):
    def test_1_1(self):
        self.assertEqual(len(family(2)), 132)

    def test_1_2(self):
        self.assertEqual(code_of(2, ("twos",), [0, 0, 0, 1]), [0, 0, 1, 1])

    def test_2_1(self):
        self.assertEqual(greatest_rate(2, ("twos",)), (3, 2))

    def test_3_1(self):
        self.assertEqual(count_lengths(2, ("drops",), 3), [(1, 2), (2, 4), (3, 2)])

    def test_3_2(self):
        self.assertEqual(row_of_length(2, ("drops",), 3, 2), [0, 0, 1])

    def test_4_1(self):
        self.assertIsNone(parting_row(2, ("delta",), ("front",)))

    def test_4_2(self):
        self.assertIn(("same",), same_as(3, ("double", "halves")))

    def test_4_3(self):
        self.assertEqual(failing_row(3, ("halves",), ("double",)), [0])

    def test_5_1(self):
        self.assertIsNone(twins(2, ("delta",)))

    def test_6_1(self):
        self.assertEqual(first_row(2, ("drops",), [0, 1]), [0, 1])
        self.assertEqual(count_rows(2, ("drops",), [0, 1], 4), 3)

    def test_7_1(self):
        self.assertEqual(could_code(2, [], []), family(2))

    def test_7_2(self):
        self.assertNotIn(("double",), could_write(2, [0]))

    def test_8_1(self):
        self.assertEqual(fewest_signs(2, (("delta",), ("same",))), 2)

    def test_8_2(self):
        self.assertEqual(best_sign(2, (("delta",), ("same",)), [], []), 1)

    def test_9_1(self):
        d = Desk(2, ("twos",))
        d.put(1)
        d.put(1)
        self.assertEqual(d.code(), [1, 1, 0])

    def test_10_1(self):
        self.assertEqual(parse_row(3, "021"), [0, 2, 1])

    def test_10_2(self):
        self.assertEqual(format_chain(2, ("delta", "twos")), "delta|twos")

    def test_11_1(self):
        self.assertEqual(naive_twins(2, ("drops",), 2), ([0], [0, 0]))


if __name__ == "__main__":
    unittest.main()
