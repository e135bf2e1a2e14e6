"""No plan is sooner; no slower plough is enough: the program against a look at every plan."""

import itertools
import unittest
from fractions import Fraction

from every_plan import Told, some_numbers, some_services
from lines import ask_last, ask_whole, best, check, needs, plain

PAIRS_OF_THREE = ((0, 1), (2, 0), (1, 2))


def small_services():
    """Every one with up to three ploughs and three streets of a few sizes, with every few pairs told."""
    for count in (1, 2, 3):
        for ploughs in itertools.product((1, 2, 3), repeat=count):
            for longs in ((2, 3, 1), (4, 2, 2), (6, 6, 6)):
                yield Told(ploughs, longs)
                for one in PAIRS_OF_THREE:
                    yield Told(ploughs, longs, apart=[one])
                    yield Told(ploughs, longs, together=[one])
                    for other in PAIRS_OF_THREE:
                        yield Told(ploughs, longs, apart=[one], together=[other])
                        if one != other:
                            yield Told(ploughs, longs, apart=[one, other])


class EveryPlanTest(unittest.TestCase):
    def test_small_services(self):
        answered = set()
        for told in small_services():
            with self.subTest(told=vars(told)):
                parts = ask_whole(*told.calls(), best(), plain(), needs(0, 3, 2), needs(len(told.ploughs) - 1, 2, 1))
                self.assertEqual(parts[-4:], [told.best(), told.plain(), told.needs(0, 3, 2),
                                              told.needs(len(told.ploughs) - 1, 2, 1)])
                answered.update((parts[-4][0], parts[-3][0] + 10, min(parts[-2][0], 2) + 20))
        self.assertEqual(answered, {-6, 0, 10, 11, 14, 21, 22})

    def test_check_of_every_plan(self):
        for told in some_services(1, 40, 4, 9, 5):
            with self.subTest(told=vars(told)):
                for plan in told.every_plan():
                    self.assertEqual(ask_last(*told.calls(), check(*plan)), told.check(plan))

    def test_services_of_all_sizes(self):
        for told in some_services(2, 60, 6, 12, 6):
            with self.subTest(told=vars(told)):
                self.assertEqual(ask_whole(*told.calls(), best(), plain())[-2:], [told.best(), told.plain()])

    def test_services_with_long_streets_and_fast_ploughs(self):
        for told in some_services(3, 40, 6, 1000, 1000):
            with self.subTest(told=vars(told)):
                self.assertEqual(ask_whole(*told.calls(), best(), plain())[-2:], [told.best(), told.plain()])

    def test_no_slower_plough_is_enough(self):
        numbers = some_numbers(4)
        ends = set()
        for told in some_services(5, 120, 5, 1000, 1000):
            plough = next(numbers) % len(told.ploughs)
            a = 1 + next(numbers) % 12
            b = 1 + next(numbers) % 12
            with self.subTest(told=vars(told), plough=plough, a=a, b=b):
                answer = ask_last(*told.calls(), needs(plough, a, b))
                self.assertEqual(len(answer), 1)
                self.assert_needed(told, plough, Fraction(a, b), answer[0])
                ends.add(-6 if answer[0] == -6 else min(answer[0], 2))
        self.assertEqual(ends, {-6, 1, 2})

    def assert_needed(self, told, plough, minutes, answer):
        if answer == -6:
            enough_for_all = 1 + sum(told.longs) * minutes.denominator
            self.assertFalse(told.with_plough(plough, enough_for_all).can_be_clear_within(minutes))
            return
        self.assertGreaterEqual(answer, 1)
        self.assertTrue(told.with_plough(plough, answer).can_be_clear_within(minutes))
        if answer > 1:
            self.assertFalse(told.with_plough(plough, answer - 1).can_be_clear_within(minutes))


if __name__ == "__main__":
    unittest.main()
