"""What holds over a whole line: its beginning, begins anew, refusals, and how long it takes."""

import time
import unittest

from lines import MOST, apart, ask_whole, begins, best, check, needs, plain, street, streets, together

SERVICE = [begins(3, 5), *streets(7, 11, 4), apart(0, 1), together(2, 0)]
LOOK = [check(0, 1, 0), check(0, 0, 0), check(0, 1, 1), best(), needs(0, 2, 1), needs(1, 4, 1), plain()]


class BeginningTest(unittest.TestCase):
    def test_one_plough_and_no_streets(self):
        self.assertEqual(ask_whole(check()), [[0, 0, 1, 0]])
        self.assertEqual(ask_whole(best()), [[0, 0, 1, 1]])
        self.assertEqual(ask_whole(needs(0, 1, 1)), [[1]])
        self.assertEqual(ask_whole(needs(1, 1, 1)), [[-2]])
        self.assertEqual(ask_whole(plain()), [[1, 0, 1]])
        self.assertEqual(ask_whole(check(0)), [[-1]])

    def test_it_clears_a_metre_a_minute(self):
        self.assertEqual(ask_whole(street(7), check(0)), [[0], [0, 7, 1, 7]])
        self.assertEqual(ask_whole(street(7), check(1)), [[0], [-1]])
        self.assertEqual(ask_whole(street(7), best()), [[0], [0, 7, 1, 1, 0]])
        self.assertEqual(ask_whole(street(7), needs(0, 2, 1)), [[0], [4]])
        self.assertEqual(ask_whole(street(7), needs(1, 2, 1)), [[0], [-2]])
        self.assertEqual(ask_whole(street(7), plain()), [[0], [1, 7, 1, 0]])


class BeginsAnewTest(unittest.TestCase):
    def test_as_for_a_new_service_with_these_ploughs(self):
        for ploughs in ((4,), (2, 9), (3, 5), (6, 1, 2)):
            for rest in ([], streets(8), streets(5, 6), streets(9, 8, 7), [*streets(9, 8, 7), apart(1, 2)]):
                count = sum(call[0] == 1 for call in rest)
                look = [check(*[0] * count), check(*[len(ploughs) - 1] * count), best(), needs(0, 3, 2), plain()]
                with self.subTest(ploughs=ploughs, rest=rest):
                    fresh = ask_whole(begins(*ploughs), *rest, *look)
                    self.assertEqual(ask_whole(*SERVICE, begins(*ploughs), *rest, *look)[len(SERVICE):], fresh)

    def test_no_streets_are_left(self):
        told = ask_whole(*SERVICE, begins(3, 5), check(), best(), needs(1, 1, 1000), plain(), check(0, 1, 0))
        self.assertEqual(told[len(SERVICE):], [[0], [0, 0, 1, 0, 0], [0, 0, 1, 1], [1], [1, 0, 1], [-1]])


class RefusedTest(unittest.TestCase):
    def test_what_is_looked_at(self):
        told = ask_whole(*SERVICE, *LOOK)[len(SERVICE):]
        self.assertEqual(told, [[0, 11, 3, 11, 11], [-6, 0, 1], [-7, 2, 0], [0, 11, 3, 2, 0, 1, 0], [-6], [3],
                                [0, 18, 5, 1, 1, 0]])

    def test_after_a_refusal_all_is_as_it_was(self):
        before = ask_whole(*SERVICE, *LOOK)[len(SERVICE):]
        for wrong, refusal in (
            (begins(), [-1]), (begins(0), [-1]), (begins(1, 1001), [-1]), (begins(9, 9, 9, 9), [-1]),
            (begins(9, MOST), [-1]), (street(0), [-1]), (street(1001), [-1]), (street(MOST), [-1]),
            (apart(0, 3), [-2]), (apart(MOST, 0), [-2]), (apart(1, 1), [-4]), (apart(1, 0), [-4]), (apart(0, 1), [-4]),
            (together(3, 0), [-2]), (together(2, 2), [-4]), (together(0, 2), [-4]), (together(2, 0), [-4]),
            (check(0), [-1]), (check(0, 1, 2), [-1]), (check(1, 1, 1), [-6, 0, 1]), (check(1, 0, 0), [-7, 2, 0]),
            (needs(2, 9, 1), [-2]), (needs(0, 0, 1), [-1]), (needs(0, 1, 1001), [-1]), (needs(1, 1, 1000), [-6]),
        ):
            with self.subTest(wrong=wrong):
                told = ask_whole(*SERVICE, wrong, *LOOK)[len(SERVICE):]
                self.assertEqual(told, [refusal, *before])

    def test_after_a_seventh_street_all_is_as_it_was(self):
        six = [begins(3, 5), *streets(7, 11, 4, 2, 9, 6)]
        look = [check(0, 1, 0, 1, 0, 1), check(0, 1, 0, 1, 0, 1, 0), best(), needs(0, 3, 1), plain()]
        before = ask_whole(*six, *look)[len(six):]
        self.assertEqual(ask_whole(*six, street(8), *look)[len(six):], [[-5], *before])

    def test_a_refused_call_at_the_beginning_changes_nothing(self):
        for wrong in (begins(), begins(7, 0), street(0), apart(0, 0), together(0, 1), needs(1, 1, 1), check(0)):
            with self.subTest(wrong=wrong):
                told = ask_whole(wrong, check(), street(3), check(0), best(), needs(0, 1, 1), plain())
                self.assertEqual(told[1:], [[0, 0, 1, 0], [0], [0, 3, 1, 3], [0, 3, 1, 1, 0], [3], [1, 3, 1, 0]])

    def test_after_no_plan_could_be_all_is_as_it_was(self):
        service = [*SERVICE, together(0, 1)]
        told = ask_whole(*service, best(), needs(0, 9, 1), check(0, 1, 0), plain(), best())[len(service):]
        self.assertEqual(told, [[-6], [-6], [-7, 0, 1], [0, 18, 5, 1, 1, 0], [-6]])


class StreetsToldLaterTest(unittest.TestCase):
    def test_each_call_looks_at_what_has_been_told_so_far(self):
        told = ask_whole(begins(1, 1), street(4), best(), street(4), best(), together(0, 1), best(), plain(),
                         needs(1, 4, 1), apart(0, 1), best(), needs(1, 4, 1), plain())
        self.assertEqual(told, [[0], [0], [0, 4, 1, 2, 0], [1], [0, 4, 1, 2, 0, 1], [0], [0, 8, 1, 2, 0, 0],
                                [0, 4, 1, 0, 1], [2], [0], [-6], [-6], [0, 4, 1, 0, 1]])


class TimeTest(unittest.TestCase):
    def test_a_long_line_is_answered_in_good_time(self):
        calls = [begins(997, 991, 983), *streets(1000, 999, 998, 997, 996, 995)]
        calls += [best(), needs(0, 1000, 999)] * 4
        calls += [check(0, 1, 2, 0, 1, 2), plain()] * 22
        calls.append(plain())
        self.assertEqual(len(calls), 60)
        start = time.monotonic()
        told = ask_whole(*calls)
        self.assertLess(time.monotonic() - start, 2)
        self.assertEqual(len(told), 60)
        self.assertEqual(told[7:9] * 4, told[7:15])


if __name__ == "__main__":
    unittest.main()
