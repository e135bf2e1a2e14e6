import unittest

from lines import MOST, apart, ask_last, ask_whole, begins, best, needs, plain, street, streets, together

TWO = [begins(10, 10), *streets(30, 50)]
NO_PLAN = [begins(5, 6), *streets(1, 1), apart(0, 1), together(0, 1)]


class NeedsTest(unittest.TestCase):
    def test_the_slowest_that_is_enough(self):
        service = [begins(1), street(10)]
        for a, b, answer in (
            (1, 1, 10), (2, 1, 5), (3, 1, 4), (4, 1, 3), (5, 1, 2), (9, 1, 2), (10, 1, 1), (11, 1, 1), (1000, 1, 1),
            (10, 3, 3), (9, 3, 4), (11, 3, 3), (1000, 1000, 10), (1000, 999, 10), (999, 1000, 11), (1, 3, 30),
            (7, 3, 5), (3, 7, 24),
        ):
            with self.subTest(a=a, b=b):
                self.assertEqual(ask_last(*service, needs(0, a, b)), [answer])

    def test_by_some_plan(self):
        for a, answer in ((1, 80), (2, 40), (3, 17), (4, 13), (5, 6), (7, 5), (8, 1), (9, 1)):
            with self.subTest(a=a):
                self.assertEqual(ask_last(*TWO, needs(0, a, 1)), [answer])
                self.assertEqual(ask_last(*TWO, needs(1, a, 1)), [answer])

    def test_the_others_clear_what_is_told_of_them(self):
        service = [begins(2, 7), *streets(14, 6), apart(0, 1)]
        self.assertEqual(ask_last(*service, needs(0, 2, 1)), [3])
        self.assertEqual(ask_last(*service, needs(1, 3, 1)), [5])
        self.assertEqual(ask_last(*service, needs(1, 7, 1)), [1])
        self.assertEqual(ask_last(*service, needs(0, 1, 1)), [14])

    def test_three_ploughs(self):
        service = [begins(3, 5, 7), *streets(9, 10, 21, 4)]
        self.assertEqual(ask_last(*service, needs(0, 3, 1)), [3])
        self.assertEqual(ask_last(*service, needs(1, 3, 1)), [5])
        self.assertEqual(ask_last(*service, needs(2, 3, 1)), [7])
        self.assertEqual(ask_last(*service, needs(2, 2, 1)), [15])

    def test_within_is_at_that_time_too(self):
        service = [begins(1, 6), *streets(9, 4), apart(0, 1)]
        self.assertEqual(ask_last(*service, needs(0, 3, 2)), [3])
        self.assertEqual(ask_last(*service, needs(0, 149, 100)), [7])

    def test_1_at_the_least(self):
        for count in (1, 2, 3):
            with self.subTest(ploughs=count):
                self.assertEqual(ask_last(begins(*[5] * count), needs(count - 1, 1, 1000)), [1])
                self.assertEqual(ask_last(begins(*[5] * count), needs(0, 1000, 1)), [1])
        self.assertEqual(ask_last(begins(7, 10), street(10), needs(0, 1, 1)), [1])
        self.assertEqual(ask_last(begins(10, 7), street(10), needs(1, 1, 1)), [1])
        self.assertEqual(ask_last(begins(9), street(1), needs(0, 1000, 1)), [1])

    def test_above_1000(self):
        self.assertEqual(ask_last(begins(1), street(1000), needs(0, 1, 1)), [1000])
        self.assertEqual(ask_last(begins(1), *streets(1000, 1), needs(0, 1, 1)), [1001])
        self.assertEqual(ask_last(begins(1), street(1000), needs(0, 1, 1000)), [1000000])
        self.assertEqual(ask_last(begins(1), *streets(*[1000] * 6), needs(0, 1, 1000)), [6000000])
        self.assertEqual(ask_last(begins(1, 1), *streets(1000, 999), needs(0, 1, 2)), [3998])

    def test_what_is_told_of_this_plough_does_not_count(self):
        self.assertEqual(ask_last(begins(500), street(10), needs(0, 1, 1)), [10])
        for told in (1, 9, 10, 11, 1000):
            with self.subTest(told=told):
                service = [begins(told, 4), *streets(20, 4), apart(0, 1)]
                self.assertEqual(ask_last(*service, needs(0, 2, 1)), [10])

    def test_streets_together(self):
        self.assertEqual(ask_last(*TWO, together(0, 1), needs(0, 5, 1)), [16])
        self.assertEqual(ask_last(*TWO, together(0, 1), needs(0, 8, 1)), [1])

    def test_streets_apart(self):
        self.assertEqual(ask_last(*TWO, apart(0, 1), needs(0, 8, 1)), [4])
        self.assertEqual(ask_last(*TWO, apart(0, 1), needs(0, 3, 1)), [17])

    def test_needs_changes_nothing(self):
        told = ask_whole(*TWO, best(), plain(), needs(0, 1, 1), best(), plain(), needs(1, 1, 1), needs(0, 1, 1))
        self.assertEqual(told[3:5], told[6:8])
        self.assertEqual(told[5:6] + told[8:], [[80], [80], [80]])


class RefusedTest(unittest.TestCase):
    def test_no_such_plough(self):
        for count in (1, 2, 3):
            service = [begins(*[5] * count), street(3)]
            self.assertEqual(ask_last(*service, needs(count - 1, 1, 1))[0] > 0, True)
            for missing in (count, count + 1, 1000, MOST):
                with self.subTest(ploughs=count, missing=missing):
                    self.assertEqual(ask_last(*service, needs(missing, 1, 1)), [-2])

    def test_not_1_to_1000(self):
        service = [begins(5, 6), *streets(10, 20)]
        right = (1, 1000)
        wrong = (0, 1001, MOST)
        for a in right + wrong:
            for b in right + wrong:
                with self.subTest(a=a, b=b):
                    told = ask_last(*service, needs(0, a, b))
                    self.assertEqual(len(told), 1)
                    if a in right and b in right:
                        self.assertGreaterEqual(told[0], 1)
                    else:
                        self.assertEqual(told, [-1])

    def test_another_plough_that_must_have_a_street_is_too_slow(self):
        service = [begins(1, 1), *streets(10, 10), apart(0, 1)]
        for plough in (0, 1):
            with self.subTest(plough=plough):
                self.assertEqual(ask_last(*service, needs(plough, 10, 1)), [1])
                self.assertEqual(ask_last(*service, needs(plough, 9, 1)), [-6])
                self.assertEqual(ask_last(*service, needs(plough, 999, 100)), [-6])
                self.assertEqual(ask_last(*service, needs(plough, 1, 1000)), [-6])

    def test_no_plan_can_be(self):
        self.assertEqual(ask_last(*NO_PLAN, needs(0, 1000, 1)), [-6])
        self.assertEqual(ask_last(*NO_PLAN, needs(1, 1, 1)), [-6])
        self.assertEqual(ask_last(begins(5), *streets(1, 1), apart(1, 0), needs(0, 1000, 1)), [-6])

    def test_of_several_the_first_told(self):
        for service in ([begins(5, 6), *streets(1, 1)], NO_PLAN):
            with self.subTest(service=service):
                for a, b in ((0, 1), (1, 0), (1001, 1), (1, MOST), (0, 0), (MOST, 1001)):
                    self.assertEqual(ask_last(*service, needs(2, a, b)), [-2])
                    self.assertEqual(ask_last(*service, needs(MOST, a, b)), [-2])
                    self.assertEqual(ask_last(*service, needs(1, a, b)), [-1])
        self.assertEqual(ask_last(*NO_PLAN, needs(2, 1, 1)), [-2])


if __name__ == "__main__":
    unittest.main()
