import unittest

from lines import MOST, apart, ask_last, ask_whole, begins, check, street, streets, together

FOUR = [begins(1, 1, 1), *streets(1, 2, 4, 8)]


class PlanThatCanBeTest(unittest.TestCase):
    def test_one_plough(self):
        self.assertEqual(ask_last(begins(5), street(10), check(0)), [0, 2, 1, 10])
        self.assertEqual(ask_last(begins(4), *streets(10, 20), check(0, 0)), [0, 15, 2, 30])

    def test_two_ploughs(self):
        service = [begins(10, 20), *streets(300, 500)]
        self.assertEqual(ask_last(*service, check(0, 1)), [0, 30, 1, 300, 500])
        self.assertEqual(ask_last(*service, check(1, 0)), [0, 50, 1, 500, 300])

    def test_three_ploughs(self):
        service = [begins(6, 4, 9), *streets(7, 5, 11, 3)]
        self.assertEqual(ask_last(*service, check(2, 0, 1, 0)), [0, 11, 4, 8, 11, 7])
        self.assertEqual(ask_last(*service, check(1, 2, 0, 2)), [0, 11, 6, 11, 7, 8])
        self.assertEqual(ask_last(*service, check(0, 1, 1, 2)), [0, 4, 1, 7, 16, 3])

    def test_a_plough_without_streets(self):
        service = [begins(10, 20), *streets(300, 500)]
        self.assertEqual(ask_last(*service, check(0, 0)), [0, 80, 1, 800, 0])
        self.assertEqual(ask_last(*service, check(1, 1)), [0, 40, 1, 0, 800])
        service = [begins(6, 4, 9), *streets(7, 5, 11, 3)]
        self.assertEqual(ask_last(*service, check(0, 0, 2, 2)), [0, 2, 1, 12, 0, 14])
        self.assertEqual(ask_last(*service, check(1, 1, 1, 1)), [0, 13, 2, 0, 26, 0])

    def test_lowest_terms(self):
        for speed, long, above, below in (
            (4, 6, 3, 2), (6, 4, 2, 3), (12, 18, 3, 2), (1, 1, 1, 1), (7, 7, 1, 1), (1000, 1000, 1, 1),
            (1000, 1, 1, 1000), (1, 1000, 1000, 1), (1000, 6, 3, 500), (999, 1000, 1000, 999), (1000, 999, 999, 1000),
            (210, 330, 11, 7), (64, 1000, 125, 8),
        ):
            with self.subTest(speed=speed, long=long):
                self.assertEqual(ask_last(begins(speed), street(long), check(0)), [0, above, below, long])

    def test_the_longest_and_the_shortest(self):
        self.assertEqual(ask_last(begins(1), *streets(*[1000] * 6), check(*[0] * 6)), [0, 6000, 1, 6000])
        self.assertEqual(ask_last(begins(1000), *streets(*[1] * 6), check(*[0] * 6)), [0, 3, 500, 6])

    def test_the_last_plough_is_found_within_a_minute(self):
        self.assertEqual(ask_last(begins(3, 1000), *streets(1, 333), check(0, 1)), [0, 1, 3, 1, 333])
        self.assertEqual(ask_last(begins(1000, 3), *streets(333, 1), check(0, 1)), [0, 1, 3, 333, 1])
        self.assertEqual(ask_last(begins(3, 1000), *streets(1, 334), check(0, 1)), [0, 167, 500, 1, 334])
        self.assertEqual(ask_last(begins(998, 999, 1000), *streets(997, 998, 999), check(0, 1, 2)),
                         [0, 999, 1000, 997, 998, 999])

    def test_the_last_plough_is_not_the_one_with_the_most_metres_or_the_slowest(self):
        self.assertEqual(ask_last(begins(10, 1), *streets(100, 20), check(0, 1)), [0, 20, 1, 100, 20])
        self.assertEqual(ask_last(begins(10, 1), *streets(100, 9), check(0, 1)), [0, 10, 1, 100, 9])

    def test_no_streets_and_a_plan_of_no_numbers(self):
        self.assertEqual(ask_last(begins(7), check()), [0, 0, 1, 0])
        self.assertEqual(ask_last(begins(7, 8), check()), [0, 0, 1, 0, 0])
        self.assertEqual(ask_last(begins(7, 8, 9), check()), [0, 0, 1, 0, 0, 0])

    def test_a_plan_that_keeps_to_what_was_told(self):
        service = [begins(2, 3), *streets(4, 5, 6), apart(0, 1), together(2, 0)]
        self.assertEqual(ask_last(*service, check(0, 1, 0)), [0, 5, 1, 10, 5])
        self.assertEqual(ask_last(*service, check(1, 0, 1)), [0, 10, 3, 5, 10])

    def test_check_changes_nothing(self):
        service = [begins(2, 3), *streets(4, 5), apart(0, 1)]
        told = ask_whole(*service, check(0, 1), check(0, 0), check(0), check(0, 1), check(1, 0))
        self.assertEqual(told[4:], [[0, 2, 1, 4, 5], [-6, 0, 1], [-1], [0, 2, 1, 4, 5], [0, 5, 2, 5, 4]])


class NotAPloughForEachStreetTest(unittest.TestCase):
    def test_too_short_and_too_long(self):
        for count in range(7):
            service = [begins(5, 6), *streets(*[3] * count)]
            for length in range(9):
                if length != count:
                    with self.subTest(streets=count, length=length):
                        self.assertEqual(ask_last(*service, check(*[0] * length)), [-1])
                        self.assertEqual(ask_last(*service, check(*[1] * length)), [-1])

    def test_a_plough_that_is_not_there(self):
        for count in (1, 2, 3):
            service = [begins(*[5] * count), *streets(1, 2, 4)]
            last = count - 1
            self.assertEqual(ask_last(*service, check(last, last, last))[0], 0)
            for missing in (count, count + 1, 1000, MOST):
                with self.subTest(ploughs=count, missing=missing):
                    self.assertEqual(ask_last(*service, check(missing, 0, 0)), [-1])
                    self.assertEqual(ask_last(*service, check(0, missing, 0)), [-1])
                    self.assertEqual(ask_last(*service, check(0, 0, missing)), [-1])
                    self.assertEqual(ask_last(*service, check(missing, missing, missing)), [-1])

    def test_no_streets(self):
        self.assertEqual(ask_last(check(0)), [-1])
        self.assertEqual(ask_last(begins(5, 6), check(1)), [-1])
        self.assertEqual(ask_last(begins(5, 6), check(MOST)), [-1])

    def test_told_before_the_others(self):
        service = [begins(5, 6), *streets(1, 2, 4), apart(0, 1), together(1, 2)]
        for plan in ((0, 0), (0, 0, 0, 0), (0, 0, 2), (0, 1), (0, 1, 0, 0), (0, 1, 2), (2, 2, 2), (MOST, MOST, 0)):
            with self.subTest(plan=plan):
                self.assertEqual(ask_last(*service, check(*plan)), [-1])


class BrokenTest(unittest.TestCase):
    def test_apart_and_one_ploughs(self):
        self.assertEqual(ask_last(*FOUR, apart(1, 2), check(0, 1, 1, 0)), [-6, 1, 2])
        self.assertEqual(ask_last(*FOUR, apart(2, 1), check(0, 2, 2, 0)), [-6, 2, 1])

    def test_apart_the_first_told_of_those_that_are_broken(self):
        service = [*FOUR, apart(3, 1), apart(2, 0), apart(1, 0), apart(0, 3)]
        for plan, answer in (
            ((0, 0, 0, 0), [-6, 3, 1]), ((0, 1, 2, 1), [-6, 3, 1]), ((0, 0, 0, 1), [-6, 2, 0]),
            ((0, 0, 1, 1), [-6, 1, 0]), ((0, 1, 0, 0), [-6, 2, 0]), ((0, 1, 2, 0), [-6, 0, 3]),
            ((2, 2, 2, 1), [-6, 2, 0]), ((0, 1, 1, 2), [0, 8, 1, 1, 6, 8]),
        ):
            with self.subTest(plan=plan):
                self.assertEqual(ask_last(*service, check(*plan)), answer)

    def test_together_and_not_one_ploughs(self):
        self.assertEqual(ask_last(*FOUR, together(1, 2), check(0, 0, 1, 1)), [-7, 1, 2])
        self.assertEqual(ask_last(*FOUR, together(2, 1), check(0, 2, 1, 0)), [-7, 2, 1])

    def test_together_the_first_told_of_those_that_are_broken(self):
        service = [*FOUR, together(3, 1), together(2, 0), together(1, 0), together(0, 3)]
        for plan, answer in (
            ((0, 0, 0, 1), [-7, 3, 1]), ((0, 1, 2, 0), [-7, 3, 1]), ((0, 1, 1, 1), [-7, 2, 0]),
            ((2, 2, 0, 2), [-7, 2, 0]), ((0, 1, 0, 1), [-7, 1, 0]), ((2, 2, 2, 2), [0, 15, 1, 0, 0, 15]),
        ):
            with self.subTest(plan=plan):
                self.assertEqual(ask_last(*service, check(*plan)), answer)
        service = [*FOUR, together(1, 2), together(3, 0), together(0, 2)]
        self.assertEqual(ask_last(*service, check(0, 0, 0, 1)), [-7, 3, 0])

    def test_both_broken(self):
        for pairs in ((together(0, 1), apart(2, 3)), (apart(2, 3), together(0, 1))):
            with self.subTest(pairs=pairs):
                self.assertEqual(ask_last(*FOUR, *pairs, check(0, 1, 2, 2)), [-6, 2, 3])
                self.assertEqual(ask_last(*FOUR, *pairs, check(0, 1, 2, 0)), [-7, 0, 1])
                self.assertEqual(ask_last(*FOUR, *pairs, check(0, 0, 2, 2)), [-6, 2, 3])

    def test_apart_and_together_told_of_the_same_two(self):
        for pairs in ((apart(0, 1), together(1, 0)), (together(1, 0), apart(0, 1))):
            with self.subTest(pairs=pairs):
                self.assertEqual(ask_last(*FOUR, *pairs, check(2, 2, 0, 0)), [-6, 0, 1])
                self.assertEqual(ask_last(*FOUR, *pairs, check(2, 1, 0, 0)), [-7, 1, 0])

    def test_a_pair_told_again_is_named_as_at_first(self):
        for tell, plan, refusal in ((apart, (0, 0, 0, 0), -6), (together, (0, 1, 2, 0), -7)):
            with self.subTest(refusal=refusal):
                told = ask_whole(*FOUR, tell(2, 1), tell(0, 1), tell(1, 2), tell(1, 0), check(*plan))
                self.assertEqual(told[5:], [[0], [0], [-4], [-4], [refusal, 2, 1]])

    def test_what_follows_from_pairs_is_not_named(self):
        service = [*FOUR, together(0, 1), together(1, 2)]
        self.assertEqual(ask_last(*service, check(0, 0, 1, 0)), [-7, 1, 2])


if __name__ == "__main__":
    unittest.main()
