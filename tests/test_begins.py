import unittest

from lines import MOST, apart, ask, begins, street, together
from snowploughs.service import Service


class BeginsTest(unittest.TestCase):
    def test_one_to_three_ploughs(self):
        self.assertEqual(ask(begins(5)), [0])
        self.assertEqual(ask(begins(5, 7)), [0])
        self.assertEqual(ask(begins(5, 7, 9)), [0])

    def test_no_plough_and_four_ploughs(self):
        self.assertEqual(ask(begins()), [-1])
        self.assertEqual(ask(begins(5, 7, 9, 11)), [-1])

    def test_metres_a_minute(self):
        for metres, answer in ((0, -1), (1, 0), (2, 0), (999, 0), (1000, 0), (1001, -1), (MOST, -1)):
            with self.subTest(metres=metres):
                self.assertEqual(ask(begins(metres)), [answer])
                self.assertEqual(ask(begins(metres, 5, 5)), [answer])
                self.assertEqual(ask(begins(5, metres, 5)), [answer])
                self.assertEqual(ask(begins(5, 5, metres)), [answer])

    def test_wrong_number_of_ploughs_that_are_wrong_too(self):
        self.assertEqual(ask(begins(0, 1001, MOST, 0)), [-1])
        self.assertEqual(ask(begins(0, 1001, MOST)), [-1])

    def test_the_beginning_has_one_plough_of_a_metre_a_minute_and_no_streets(self):
        service = Service()
        self.assertEqual(service.ploughs, [1])
        self.assertEqual(service.streets, [])
        self.assertEqual(ask(apart(0, 0)), [-2])
        self.assertEqual(ask(together(0, 0)), [-2])
        self.assertEqual(ask(street(1)), [0])

    def test_ploughs_are_kept_in_order(self):
        service = Service()
        self.assertEqual(service.begin([30, 10, 20]), [0])
        self.assertEqual(service.ploughs, [30, 10, 20])

    def test_begins_anew_leaves_no_streets(self):
        told = ask(begins(5), street(3), street(4), begins(6, 7), apart(0, 1), together(0, 0), street(9), street(8))
        self.assertEqual(told, [0, 0, 1, 0, -2, -2, 0, 1])

    def test_begins_anew_makes_room_for_six_streets(self):
        streets = [street(3)] * 6
        told = ask(*streets, street(3), begins(5), *streets, street(3))
        self.assertEqual(told, [0, 1, 2, 3, 4, 5, -5, 0, 0, 1, 2, 3, 4, 5, -5])

    def test_begins_anew_forgets_what_was_told_of_streets(self):
        pair = [street(3), street(4), apart(0, 1), together(0, 1)]
        self.assertEqual(ask(*pair, begins(5), *pair), [0, 1, 0, 0, 0, 0, 1, 0, 0])

    def test_after_a_refusal_all_is_as_it_was(self):
        for wrong in (begins(), begins(0), begins(5, 1001), begins(5, 6, MOST), begins(5, 6, 7, 8)):
            with self.subTest(wrong=wrong):
                told = ask(begins(5, 6), street(3), street(4), apart(0, 1), together(1, 0), wrong,
                           apart(0, 1), together(0, 1), street(7), apart(2, 0), begins(7), street(1))
                self.assertEqual(told, [0, 0, 1, 0, 0, -1, -4, -4, 2, 0, 0, 0])

    def test_after_a_refusal_the_ploughs_are_as_they_were(self):
        for wrong in ([], [0], [7, 1001], [7, 8, MOST], [7, 8, 9, 10]):
            with self.subTest(wrong=wrong):
                service = Service()
                self.assertEqual(service.begin(wrong), [-1])
                self.assertEqual(service.ploughs, [1])
                service.begin([5, 6])
                service.add_street(3)
                self.assertEqual(service.begin(wrong), [-1])
                self.assertEqual(service.ploughs, [5, 6])
                self.assertEqual(service.streets, [3])


if __name__ == "__main__":
    unittest.main()
