"""Point 9: the deeds of a day, and their answers."""

import unittest

from peghall.day import answers, rack_behind, sizes


def hangings(numbers):
    return [("hang", number) for number in numbers]


class DayCase(unittest.TestCase):
    def check(self, deeds, expected_answers, expected_rack):
        before = list(deeds)
        given = answers(deeds)
        self.assertEqual(given, expected_answers)
        self.assertIs(type(given), list)
        rack = rack_behind(deeds)
        self.assertEqual(rack, expected_rack)
        self.assertIs(type(rack), list)
        self.assertEqual(len(sizes(deeds)), len(deeds))
        self.assertEqual(deeds, before)


class EmptyDay(DayCase):
    def test_a_day_without_deeds(self):
        self.check([], [], [None] * 5)
        self.assertEqual(sizes([]), [])

    def test_nothing_is_kept_from_an_earlier_day(self):
        rack_behind([])[0] = 99
        rack_behind(hangings((0, 1)))[2] = 99
        self.assertEqual(rack_behind([]), [None] * 5)
        self.assertEqual(rack_behind(hangings((0, 1))), [0, 1, None, None, None])


class Deeds(DayCase):
    def test_hang(self):
        self.check(hangings((7, -1, 2)), [2, 4, 3], [None, None, 7, 2, -1])

    def test_hang_round_the_end(self):
        self.check(hangings((4, 9, -1)), [4, 0, 1], [9, -1, None, None, 4])

    def test_hang_what_hangs_already(self):
        self.check(hangings((7, 2, 2, 7)), [2, 3, None, None], [None, None, 7, 2, None])

    def test_hang_what_hangs_already_just_short_of_a_change(self):
        deeds = hangings((0, 1, 2, 2))
        self.check(deeds, [0, 1, 2, None], [0, 1, 2, None, None])
        self.assertEqual(sizes(deeds)[-1], (5, 3))

    def test_take(self):
        deeds = hangings((2, 7)) + [("take", 2), ("take", 7)]
        self.check(deeds[:3], [2, 3, 2], [None, None, 7, None, None])
        self.check(deeds, [2, 3, 2, 2], [None] * 5)

    def test_take_from_peg_nought(self):
        self.check([("hang", 0), ("take", 0)], [0, 0], [None] * 5)

    def test_take_what_is_not_there(self):
        self.check([("take", 0)], [None], [None] * 5)
        self.check([("hang", 2), ("take", 7), ("take", -2)], [2, None, None], [None, None, 2, None, None])

    def test_take_twice_and_hang_again(self):
        deeds = [("hang", 3), ("take", 3), ("take", 3), ("hang", 3)]
        self.check(deeds, [3, 3, None, 3], [None, None, None, 3, None])

    def test_look(self):
        deeds = hangings((4, 9)) + [("look", 9), ("look", 4)]
        self.check(deeds, [4, 0, 0, 4], [9, None, None, None, 4])

    def test_look_for_what_is_not_there(self):
        self.check([("look", 0)], [None], [None] * 5)
        self.check([("hang", 4), ("look", 9), ("look", -4)], [4, None, None], [None, None, None, None, 4])

    def test_look_where_it_came_behind_a_taking(self):
        deeds = hangings((2, 7)) + [("take", 2), ("look", 7), ("look", 2)]
        self.check(deeds, [2, 3, 2, 2, None], [None, None, 7, None, None])

    def test_nought_below_nought_and_many_figures(self):
        large = 10 ** 110 + 3
        deeds = hangings((0, -5, large)) + [("look", large), ("look", -large), ("take", -5), ("look", 0)]
        self.check(deeds, [0, 1, 3, 3, None, 1, 0], [0, None, None, large, None])

    def test_sizes(self):
        deeds = [("look", 1), ("hang", 1), ("hang", 1), ("hang", 6), ("take", 1), ("take", 1), ("look", 6)]
        pairs = sizes(deeds)
        self.assertEqual(pairs, [(5, 0), (5, 1), (5, 1), (5, 2), (5, 1), (5, 1), (5, 1)])
        self.assertIs(type(pairs), list)
        self.assertTrue(all(type(pair) is tuple for pair in pairs))
        self.assertEqual(deeds[0], ("look", 1))
        self.assertEqual(len(deeds), 7)


class Changes(DayCase):
    def test_just_short_of_it_at_5_pegs(self):
        self.check(hangings((0, 1, 9)), [0, 1, 4], [0, 1, None, None, 9])
        self.assertEqual(sizes(hangings((0, 1, 9))), [(5, 1), (5, 2), (5, 3)])

    def test_at_5_pegs(self):
        deeds = hangings((0, 1, 9, 8))
        self.check(deeds, [0, 1, 4, 8], [0, 1] + [None] * 6 + [8, 9, None])
        self.assertEqual(sizes(deeds)[-1], (11, 4))

    def test_the_new_coat_is_changed_from_the_peg_where_it_was_hung(self):
        self.check(hangings((11, 22, 33, 55)), [1, 2, 3, 0], [55, 11, 22, 33] + [None] * 7)

    def test_just_short_of_it_at_11_pegs(self):
        pairs = sizes(hangings(range(7)))
        self.assertEqual(pairs[-4:], [(11, 4), (11, 5), (11, 6), (11, 7)])

    def test_at_11_pegs(self):
        deeds = hangings((0, 1, 2, 3, 4, 5, 6, 20))
        self.check(deeds, [0, 1, 2, 3, 4, 5, 6, 20], [0, 1, 2, 3, 4, 5, 6] + [None] * 13 + [20, None, None])
        self.assertEqual(sizes(deeds)[-1], (23, 8))

    def test_just_short_of_it_at_23_pegs(self):
        pairs = sizes(hangings(range(15)))
        self.assertEqual(pairs[7:], [(23, coats) for coats in range(8, 16)])

    def test_at_23_pegs(self):
        deeds = hangings(list(range(15)) + [-1])
        self.check(deeds, list(range(15)) + [46], list(range(15)) + [None] * 31 + [-1])
        self.assertEqual(sizes(deeds)[-1], (47, 16))

    def test_a_coat_is_looked_for_at_its_new_peg(self):
        deeds = hangings((0, 1, 9, 8)) + [("look", 9), ("hang", 9), ("take", 9), ("look", 9)]
        self.assertEqual(answers(deeds)[4:], [9, None, 9, None])

    def test_the_number_of_pegs_stays_at_a_taking(self):
        deeds = hangings((0, 1, 9, 8)) + [("take", number) for number in (0, 1, 9, 8)]
        self.check(deeds, [0, 1, 4, 8, 0, 1, 9, 8], [None] * 11)
        self.assertEqual(sizes(deeds)[4:], [(11, 3), (11, 2), (11, 1), (11, 0)])

    def test_coats_taken_before_do_not_count(self):
        deeds = hangings((0, 1, 2)) + [("take", 1), ("hang", 3)]
        self.check(deeds, [0, 1, 2, 1, 3], [0, None, 2, 3, None])
        self.assertEqual(sizes(deeds)[-1], (5, 3))


if __name__ == "__main__":
    unittest.main()
