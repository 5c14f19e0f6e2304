"""Point 10: what holds behind each deed of longer days."""

import unittest

from hall_checks import is_sound, mixed_day, model_day
from peghall.day import answers, rack_behind, sizes

# Multiples of this come to peg nought of every rack of up to 95 pegs, so their runs are long.
CROWDING = 5 * 11 * 23 * 47 * 95

LONG_DAYS = (
    mixed_day(1, 450, 12, 1),
    mixed_day(2, 450, 400, 1),
    mixed_day(3, 450, 40, CROWDING),
    mixed_day(4, 450, 150, 10 ** 107 + 1),
    mixed_day(5, 480, 200, 11),
)


def coats_due(deeds):
    """The coats that were hung and not taken since."""
    due = set()
    for word, number in deeds:
        if word == "hang":
            due.add(number)
        elif word == "take":
            due.discard(number)
    return due


class LongDays(unittest.TestCase):
    def check_behind(self, deeds):
        rack = rack_behind(deeds)
        coats = [coat for coat in rack if coat is not None]
        self.assertTrue(is_sound(rack))
        self.assertEqual(len(coats), len(set(coats)))
        self.assertEqual(set(coats), coats_due(deeds))
        self.assertLessEqual(3 * len(coats), 2 * len(rack))

    def test_behind_each_deed(self):
        for deeds in LONG_DAYS:
            for length in range(len(deeds) + 1):
                self.check_behind(deeds[:length])

    def test_every_answer_and_size_of_the_longest_days(self):
        for deeds in LONG_DAYS:
            before = list(deeds)
            steps = model_day(deeds)
            self.assertEqual(answers(deeds), [answer for answer, rack in steps])
            self.assertEqual(sizes(deeds), [(len(rack), len(rack) - rack.count(None)) for answer, rack in steps])
            self.assertEqual(rack_behind(deeds), steps[-1][1])
            self.assertEqual(deeds, before)

    def test_racks_behind_deeds_of_a_long_day(self):
        deeds = LONG_DAYS[2]
        steps = model_day(deeds)
        for length in range(1, len(deeds) + 1):
            self.assertEqual(rack_behind(deeds[:length]), steps[length - 1][1])

    def test_a_day_of_hangings_alone(self):
        deeds = [("hang", number * number - 1000) for number in range(450)]
        self.check_behind(deeds)
        self.assertEqual(sizes(deeds)[-1], (767, 450))

    def test_the_long_days_hold_all_kinds_of_deeds_and_answers(self):
        for deeds in LONG_DAYS:
            seen = set()
            for deed, answer in zip(deeds, answers(deeds)):
                seen.add((deed[0], answer is None))
            self.assertEqual(len(seen), 6)


if __name__ == "__main__":
    unittest.main()
