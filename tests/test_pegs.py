"""Points 2 to 5: own pegs, and looking for a coat."""

import unittest

from hall_checks import crowded_racks, is_sound, remainder, round_from
from peghall.pegs import own_peg, peg_of, way_of

# Coat 4 came round the hall to peg nought; peg 1 is the single free one.
SINGLE_FREE = [4, None, 2, 7, 9]


class OwnPeg(unittest.TestCase):
    def test_the_examples_of_the_document(self):
        self.assertEqual(own_peg(7, 5), 2)
        self.assertEqual(own_peg(-1, 5), 4)

    def test_nought(self):
        for size in (3, 5, 11, 767):
            self.assertEqual(own_peg(0, size), 0)

    def test_numbers_round_nought(self):
        self.assertEqual([own_peg(number, 3) for number in range(-4, 5)], [2, 0, 1, 2, 0, 1, 2, 0, 1])

    def test_whole_rounds_below_nought(self):
        self.assertEqual(own_peg(-5, 5), 0)
        self.assertEqual(own_peg(-10, 5), 0)
        self.assertEqual(own_peg(-11, 5), 4)

    def test_numbers_of_many_figures(self):
        self.assertEqual(own_peg(10 ** 109 + 7, 5), 2)
        self.assertEqual(own_peg(-(10 ** 109) - 1, 5), 4)
        for figures in (100, 109, 110, 111, 150):
            for number in (int("7" * figures), int("9" * figures), 10 ** (figures - 1) + 1):
                for size in (3, 5, 11, 23, 767):
                    self.assertEqual(own_peg(number, size), remainder(number, size))
                    self.assertEqual(own_peg(-number, size), remainder(-number, size))

    def test_the_own_peg_is_a_whole_number_on_the_rack(self):
        for number in (-(10 ** 110), -1, 0, 1, 10 ** 110):
            peg = own_peg(number, 7)
            self.assertIs(type(peg), int)
            self.assertIn(peg, range(7))


class Sound(unittest.TestCase):
    """Point 4 as the tests ask it: a measure that takes every rack would hide faults."""

    def test_sound_racks(self):
        for rack in ([None] * 3, [0, 3, None], [9, None, None, None, 4], SINGLE_FREE):
            self.assertTrue(is_sound(rack))

    def test_a_number_twice(self):
        self.assertFalse(is_sound([None, 1, 1, None, None]))

    def test_no_free_peg(self):
        self.assertFalse(is_sound([0, 1, 2]))

    def test_a_free_peg_on_the_way(self):
        self.assertFalse(is_sound([None, None, None, 2, None]))
        self.assertFalse(is_sound([4, None, None, None, None]))
        self.assertFalse(is_sound([None, None, 4, None, 9]))


class Looking(unittest.TestCase):
    def test_the_rack_here_is_sound(self):
        self.assertTrue(is_sound(SINGLE_FREE))

    def test_on_its_own_peg(self):
        self.assertEqual((peg_of(SINGLE_FREE, 2), way_of(SINGLE_FREE, 2)), (2, 0))
        self.assertEqual((peg_of(SINGLE_FREE, 9), way_of(SINGLE_FREE, 9)), (4, 0))

    def test_further_on(self):
        self.assertEqual((peg_of(SINGLE_FREE, 7), way_of(SINGLE_FREE, 7)), (3, 1))
        rack = [None, 1, 8, 15, 2, None, None]
        self.assertEqual((peg_of(rack, 15), way_of(rack, 15)), (3, 2))
        self.assertEqual((peg_of(rack, 2), way_of(rack, 2)), (4, 2))

    def test_beyond_the_last_peg(self):
        self.assertEqual((peg_of(SINGLE_FREE, 4), way_of(SINGLE_FREE, 4)), (0, 1))
        rack = [3, 7, None, 11]
        self.assertEqual((peg_of(rack, 3), way_of(rack, 3)), (0, 1))
        self.assertEqual((peg_of(rack, 7), way_of(rack, 7)), (1, 2))

    def test_not_there(self):
        for number in (0, 1, 3, -1, 12, 14, -3, 10 ** 110):
            self.assertIsNone(peg_of(SINGLE_FREE, number))
            self.assertIsNone(way_of(SINGLE_FREE, number))

    def test_not_there_where_all_pegs_are_free(self):
        self.assertIsNone(peg_of([None, None, None], 0))
        self.assertIsNone(way_of([None, None, None], 0))

    def test_coat_nought_is_a_coat(self):
        rack = [0, 3, None]
        self.assertEqual((peg_of(rack, 0), way_of(rack, 0)), (0, 0))
        self.assertEqual((peg_of(rack, 3), way_of(rack, 3)), (1, 1))

    def test_numbers_below_nought(self):
        rack = [-6, None, None, None, -1]
        self.assertEqual((peg_of(rack, -1), way_of(rack, -1)), (4, 0))
        self.assertEqual((peg_of(rack, -6), way_of(rack, -6)), (0, 1))
        self.assertIsNone(peg_of(rack, 1))
        self.assertIsNone(peg_of(rack, 6))

    def test_numbers_of_many_figures(self):
        large = 10 ** 109 + 2
        rack = [None, None, large, large + 5, None]
        self.assertEqual((peg_of(rack, large + 5), way_of(rack, large + 5)), (3, 1))
        self.assertIsNone(peg_of(rack, large + 10))

    def test_the_longest_way_of_all(self):
        rack = [5, 11, 17, 23, None, -1]
        self.assertTrue(is_sound(rack))
        self.assertEqual((peg_of(rack, 23), way_of(rack, 23)), (3, 4))
        self.assertIsNone(peg_of(rack, 29))

    def test_every_coat_of_crowded_racks(self):
        for rack in crowded_racks(9, (1, 3, 5, 7, 8, 8), 3):
            self.assertTrue(is_sound(rack))
            before = list(rack)
            for number in range(-200, 200):
                peg = rack.index(number) if number in rack else None
                way = None if peg is None else round_from(remainder(number, 9), 9).index(peg)
                self.assertEqual((peg_of(rack, number), way_of(rack, number)), (peg, way))
            self.assertEqual(rack, before)


if __name__ == "__main__":
    unittest.main()
