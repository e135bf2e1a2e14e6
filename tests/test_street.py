import unittest

from lines import MOST, apart, ask, begins, street
from snowploughs.service import Service

SIX = [street(1), street(1000), street(3), street(3), street(500), street(6)]


class StreetTest(unittest.TestCase):
    def test_streets_are_numbered_from_0(self):
        self.assertEqual(ask(begins(5, 6), street(10), street(20), street(10)), [0, 0, 1, 2])

    def test_how_long(self):
        for long, answer in ((0, -1), (1, 0), (2, 0), (999, 0), (1000, 0), (1001, -1), (MOST, -1)):
            with self.subTest(long=long):
                self.assertEqual(ask(street(long)), [answer])

    def test_lengths_are_kept_in_order(self):
        service = Service()
        for long in (30, 0, 10, 1001, 20):
            service.add_street(long)
        self.assertEqual(service.streets, [30, 10, 20])

    def test_sixth_street(self):
        self.assertEqual(ask(*SIX), [0, 1, 2, 3, 4, 5])
        for wrong in (0, 1001, MOST):
            with self.subTest(wrong=wrong):
                self.assertEqual(ask(*SIX[:5], street(wrong), street(9)), [0, 1, 2, 3, 4, -1, 5])

    def test_seventh_street(self):
        for long in (1, 7, 1000):
            with self.subTest(long=long):
                self.assertEqual(ask(*SIX, street(long)), [0, 1, 2, 3, 4, 5, -5])

    def test_seventh_street_of_a_wrong_length_is_refused_for_its_length(self):
        for long in (0, 1001, MOST):
            with self.subTest(long=long):
                self.assertEqual(ask(*SIX, street(long)), [0, 1, 2, 3, 4, 5, -1])

    def test_after_a_refused_length_all_is_as_it_was(self):
        for wrong in (0, 1001, MOST):
            with self.subTest(wrong=wrong):
                told = ask(street(3), street(wrong), apart(0, 1), street(4), apart(0, 1), street(wrong),
                           apart(1, 0), apart(1, 2), street(5))
                self.assertEqual(told, [0, -1, -2, 1, 0, -1, -4, -2, 2])

    def test_after_a_street_too_many_all_is_as_it_was(self):
        told = ask(*SIX, apart(0, 5), street(9), apart(5, 0), apart(0, 6), street(9), street(0), apart(4, 5))
        self.assertEqual(told, [0, 1, 2, 3, 4, 5, 0, -5, -4, -2, -5, -1, 0])
        service = Service()
        for long in (1, 2, 3, 4, 5, 6, 7, 8):
            service.add_street(long)
        self.assertEqual(service.streets, [1, 2, 3, 4, 5, 6])
        self.assertEqual(service.ploughs, [1])


if __name__ == "__main__":
    unittest.main()
