import unittest

from lines import apart, ask_last, ask_whole, begins, best, check, plain, street, streets, together


class PlainTest(unittest.TestCase):
    def test_no_streets(self):
        self.assertEqual(ask_last(begins(5), plain()), [1, 0, 1])
        self.assertEqual(ask_last(begins(5, 6, 7), plain()), [1, 0, 1])

    def test_one_plough(self):
        self.assertEqual(ask_last(begins(4), *streets(10, 20), plain()), [1, 15, 2, 0, 0])

    def test_the_soonest_plough_for_each_street_in_order(self):
        self.assertEqual(ask_last(begins(1, 2), *streets(4, 4, 2), plain()), [1, 4, 1, 1, 0, 1])
        self.assertEqual(ask_last(begins(1, 2), *streets(2, 4, 4), plain()), [1, 4, 1, 1, 1, 0])
        self.assertEqual(ask_last(begins(3, 4, 5), *streets(10, 10, 10, 10), plain()), [1, 4, 1, 2, 1, 0, 2])

    def test_the_soonest_with_the_street_is_not_always_the_one_that_has_nothing(self):
        self.assertEqual(ask_last(begins(1, 10), *streets(5, 5), plain()), [1, 1, 1, 1, 1])
        self.assertEqual(ask_last(begins(10, 1), *streets(5, 5), plain()), [1, 1, 1, 0, 0])

    def test_of_several_the_lowest(self):
        self.assertEqual(ask_last(begins(5, 5, 5), *streets(10, 10, 10, 10), plain()), [1, 4, 1, 0, 1, 2, 0])
        self.assertEqual(ask_last(begins(1, 2, 2), street(4), plain()), [1, 2, 1, 1])
        self.assertEqual(ask_last(begins(2, 4), *streets(4, 4), plain()), [1, 2, 1, 1, 0])

    def test_the_soonest_is_found_within_a_minute(self):
        self.assertEqual(ask_last(begins(998, 1000, 999), street(1), plain()), [1, 1, 1000, 1])
        self.assertEqual(ask_last(begins(998, 999, 1000), *streets(1, 1, 1), plain()), [1, 1, 998, 2, 1, 0])

    def test_it_may_be_worse_than_the_best(self):
        service = [begins(1, 1), *streets(1, 1, 2)]
        self.assertEqual(ask_last(*service, plain()), [1, 3, 1, 0, 1, 0])
        self.assertEqual(ask_last(*service, best())[:3], [0, 2, 1])

    def test_when_all_is_clear_is_a_fraction_in_lowest_terms(self):
        self.assertEqual(ask_last(begins(6, 4), *streets(3, 3, 3), plain()), [1, 1, 1, 0, 1, 0])
        self.assertEqual(ask_last(begins(6, 4), *streets(3, 3), plain()), [1, 3, 4, 0, 1])

    def test_whether_it_can_be(self):
        service = [begins(1, 1), *streets(1, 1, 2)]
        for pairs, possible in (
            ([apart(0, 1)], 1), ([apart(0, 2)], 0), ([apart(2, 0)], 0), ([apart(1, 2)], 1),
            ([together(0, 1)], 0), ([together(1, 0)], 0), ([together(2, 0)], 1), ([together(1, 2)], 0),
            ([apart(0, 1), together(0, 2)], 1), ([apart(0, 1), apart(2, 0)], 0), ([together(0, 2), together(1, 0)], 0),
            ([together(0, 2), apart(0, 2)], 0), ([together(0, 1), apart(0, 1)], 0),
            ([apart(0, 1), apart(1, 2), together(0, 2)], 1),
        ):
            with self.subTest(pairs=pairs):
                self.assertEqual(ask_last(*service, *pairs, plain()), [possible, 3, 1, 0, 1, 0])
                self.assertEqual(ask_last(*service, *pairs, check(0, 1, 0))[0] == 0, possible == 1)

    def test_where_no_plan_can_be(self):
        self.assertEqual(ask_last(begins(5), *streets(10, 10), apart(0, 1), plain()), [0, 4, 1, 0, 0])

    def test_plain_changes_nothing(self):
        told = ask_whole(begins(1, 1), *streets(1, 1, 2), plain(), best(), plain(), street(1), plain())
        self.assertEqual(told[4:], [[1, 3, 1, 0, 1, 0], [0, 2, 1, 2, 0, 0, 1], [1, 3, 1, 0, 1, 0], [3],
                                    [1, 3, 1, 0, 1, 0, 1]])


if __name__ == "__main__":
    unittest.main()
