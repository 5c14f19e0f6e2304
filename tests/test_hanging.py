"""Points 6 to 8: hanging, taking, changing."""

import unittest

from hall_checks import crowded_racks, is_sound, model_change, model_hang, model_take
from peghall.hanging import changed, hung, taken


class RackCase(unittest.TestCase):
    def check(self, make, rack, number, expected):
        """Holds what comes back against what is expected, and the rack handed in against itself."""
        self.assertTrue(is_sound(rack))
        before = list(rack)
        behind = make(rack, number)
        self.assertEqual(behind, expected)
        self.assertIs(type(behind), list)
        self.assertTrue(is_sound(behind))
        self.assertEqual(rack, before)
        self.assertIsNot(behind, rack)


class Hanging(RackCase):
    def test_on_the_own_peg(self):
        self.check(hung, [None] * 5, 7, [None, None, 7, None, None])
        self.check(hung, [None, None, 2, None, None], -1, [None, None, 2, None, -1])

    def test_on_a_later_peg(self):
        self.check(hung, [None, None, 2, None, None], 7, [None, None, 2, 7, None])
        self.check(hung, [None, 1, 2, None, None], 6, [None, 1, 2, 6, None])

    def test_round_the_end(self):
        self.check(hung, [None, None, None, None, 4], 9, [9, None, None, None, 4])
        self.check(hung, [9, None, None, None, 4], -1, [9, -1, None, None, 4])

    def test_the_first_free_peg_from_the_own_one_and_no_other(self):
        self.check(hung, [None, None, 2, None, None], 3, [None, None, 2, 3, None])
        self.check(hung, [None, 1, None, 3, None, None], 7, [None, 1, 7, 3, None, None])

    def test_two_free_pegs(self):
        self.check(hung, [0, None, 2, 3, None], 7, [0, None, 2, 3, 7])
        self.check(hung, [None, 1, None], 4, [None, 1, 4])

    def test_nought_takes_a_peg(self):
        self.check(hung, [None, None, None], 0, [0, None, None])
        self.check(hung, [0, None, None], 3, [0, 3, None])

    def test_many_figures(self):
        large = 10 ** 111 + 4
        self.check(hung, [None, None, None, None, 4], large, [large, None, None, None, 4])
        self.check(hung, [None] * 5, -(10 ** 109) - 1, [None] * 4 + [-(10 ** 109) - 1])

    def test_no_change_however_many_coats(self):
        self.assertEqual(len(hung([0, 1, 2, None, None], 3)), 5)

    def test_crowded_racks(self):
        for rack in crowded_racks(9, (0, 2, 4, 6, 7, 7), 5):
            for number in range(-30, 30):
                if number not in rack:
                    expected = list(rack)
                    model_hang(expected, number)
                    self.check(hung, rack, number, expected)


class Taking(RackCase):
    def test_a_coat_by_itself(self):
        self.check(taken, [None, None, 7, None, None], 7, [None] * 5)
        self.check(taken, [0, None, None], 0, [None] * 3)

    def test_a_later_coat_comes_nearer(self):
        self.check(taken, [None, None, 2, 7, None], 2, [None, None, 7, None, None])
        self.check(taken, [None, 1, 8, 15, None, None, None], 1, [None, 8, 15, None, None, None, None])

    def test_some_come_nearer_and_some_stay(self):
        self.check(taken, [None, None, 2, 9, 4, 16, None], 2, [None, None, 9, 16, 4, None, None])

    def test_all_stay(self):
        self.check(taken, [None, 1, 2, 3, None], 1, [None, None, 2, 3, None])

    def test_the_last_of_a_run(self):
        self.check(taken, [None, None, 2, 9, 4, 16, None], 16, [None, None, 2, 9, 4, None, None])

    def test_coats_ahead_of_it_stay(self):
        self.check(taken, [None, None, 2, 9, 16, None, None], 9, [None, None, 2, 16, None, None, None])

    def test_another_run_stays(self):
        self.check(taken, [0, 5, None, 3, None], 3, [0, 5, None, None, None])

    def test_a_run_round_the_end(self):
        self.check(taken, [9, 14, None, None, 4], 4, [14, None, None, None, 9])
        self.check(taken, [9, 0, 14, None, 4], 4, [0, 14, None, None, 9])
        self.check(taken, [9, 0, 14, None, 4], 9, [0, 14, None, None, 4])

    def test_a_single_free_peg(self):
        self.check(taken, [4, None, 2, 7, 9], 2, [4, None, 7, None, 9])
        self.check(taken, [4, None, 2, 7, 9], 9, [None, None, 2, 7, 4])
        self.check(taken, [4, None, 2, 7, 9], 4, [None, None, 2, 7, 9])
        self.check(taken, [5, 11, 17, 23, None, -1], -1, [11, 17, 23, None, None, 5])

    def test_nought_is_hung_anew_too(self):
        self.check(taken, [3, 0, None], 3, [0, None, None])

    def test_many_figures(self):
        large = 10 ** 111 + 2
        self.check(taken, [None, None, 2, large, None], 2, [None, None, large, None, None])

    def test_crowded_racks(self):
        for rack in crowded_racks(9, (1, 3, 5, 6, 7, 8, 8, 8), 11):
            for number in [coat for coat in rack if coat is not None]:
                expected = list(rack)
                model_take(expected, number)
                self.check(taken, rack, number, expected)


class Changing(RackCase):
    def test_to_more_pegs(self):
        self.check(changed, [4, None, 2, 7, 9], 11,
                   [None, None, 2, None, 4, None, None, 7, None, 9, None])

    def test_to_more_pegs_by_the_order_from_peg_nought(self):
        self.check(changed, [55, 11, 22, None, None], 11, [55, 11, 22] + [None] * 8)
        self.check(changed, [55, None, 22, 33, None], 11, [55, 22, 33] + [None] * 8)

    def test_the_coat_that_came_round_the_end_is_first(self):
        self.check(changed, [44, 11, None, None, 99], 11, [44, 11, 99] + [None] * 8)

    def test_to_fewer_pegs(self):
        self.check(changed, [None, 8, 2, None, None, 5, None], 4, [8, 5, 2, None])

    def test_to_fewer_pegs_by_the_order_from_peg_nought(self):
        self.check(changed, [None, None, 2, None, None, 5, None], 3, [5, None, 2])
        self.check(changed, [None, 8, None, None, None, 5, None], 3, [5, None, 8])
        self.check(changed, [None, None, 9, None, None, 5, 13], 4, [None, 9, 5, 13])

    def test_one_free_peg_is_left(self):
        self.check(changed, [None, 8, 1, None, None, 12, 19], 5, [None, 1, 12, 8, 19])

    def test_no_coats(self):
        self.check(changed, [None] * 5, 11, [None] * 11)
        self.check(changed, [None] * 11, 3, [None] * 3)

    def test_nought_goes_along(self):
        self.check(changed, [0, None, None], 7, [0] + [None] * 6)

    def test_as_many_pegs_again(self):
        self.check(changed, [4, None, 2, 7, 9], 5, [9, None, 2, 7, 4])

    def test_crowded_racks(self):
        for rack in crowded_racks(9, (1, 3, 5, 6, 7, 8), 13):
            coats = 9 - rack.count(None)
            for size in range(max(3, coats + 1), 24):
                self.check(changed, rack, size, model_change(rack, size))


if __name__ == "__main__":
    unittest.main()
