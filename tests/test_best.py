import unittest

from lines import apart, ask_last, ask_whole, begins, best, street, streets, together


class BestTest(unittest.TestCase):
    def test_no_streets(self):
        self.assertEqual(ask_last(begins(5), best()), [0, 0, 1, 1])
        self.assertEqual(ask_last(begins(5, 6, 7), best()), [0, 0, 1, 1])

    def test_one_plough(self):
        self.assertEqual(ask_last(begins(4), *streets(10, 20), best()), [0, 15, 2, 1, 0, 0])

    def test_the_only_best_plan(self):
        self.assertEqual(ask_last(begins(10, 20), *streets(300, 500), best()), [0, 30, 1, 1, 0, 1])
        self.assertEqual(ask_last(begins(20, 10), *streets(300, 500), best()), [0, 30, 1, 1, 1, 0])
        self.assertEqual(ask_last(begins(1, 1000), *streets(4, 5, 6), best()), [0, 3, 200, 1, 1, 1, 1])
        self.assertEqual(ask_last(begins(1, 3, 9), *streets(9, 3, 27), best()), [0, 3, 1, 1, 1, 0, 2])

    def test_a_plan_that_street_by_street_does_not_find(self):
        self.assertEqual(ask_last(begins(1, 1), *streets(1, 1, 2), best()), [0, 2, 1, 2, 0, 0, 1])
        self.assertEqual(ask_last(begins(1, 1), *streets(3, 3, 2, 2, 2), best()), [0, 6, 1, 2, 0, 0, 1, 1, 1])

    def test_several_as_good(self):
        self.assertEqual(ask_last(begins(5, 5), street(10), best()), [0, 2, 1, 2, 0])
        self.assertEqual(ask_last(begins(5, 5), *streets(10, 10), best()), [0, 2, 1, 2, 0, 1])
        self.assertEqual(ask_last(begins(5, 5, 5), *streets(10, 10, 10), best()), [0, 2, 1, 6, 0, 1, 2])
        self.assertEqual(ask_last(begins(1, 1, 1), *streets(10, 1, 1), best()), [0, 10, 1, 12, 0, 1, 1])
        self.assertEqual(ask_last(begins(1, 1, 1), *streets(1000, 1, 1, 1, 1, 1), best()),
                         [0, 1000, 1, 96, 0, 1, 1, 1, 1, 1])
        self.assertEqual(ask_last(begins(1, 1, 1), *streets(1, 1, 1, 1, 1, 1), best()), [0, 2, 1, 90, 0, 0, 1, 1, 2, 2])

    def test_as_good_by_another_fraction_of_the_same_worth(self):
        # 4 by 2 where one has a street each, 8 by 4 where the faster one has both.
        self.assertEqual(ask_last(begins(2, 4), *streets(4, 4), best()), [0, 2, 1, 3, 0, 1])

    def test_the_earliest_differs_first_at_a_later_street(self):
        self.assertEqual(ask_last(begins(1, 1, 1), *streets(1, 10, 1), best()), [0, 10, 1, 12, 0, 1, 0])
        self.assertEqual(ask_last(begins(1, 10, 1), *streets(100, 1), best()), [0, 10, 1, 2, 1, 0])

    def test_apart(self):
        service = [begins(10, 1), *streets(10, 10)]
        self.assertEqual(ask_last(*service, best()), [0, 2, 1, 1, 0, 0])
        self.assertEqual(ask_last(*service, apart(0, 1), best()), [0, 10, 1, 2, 0, 1])
        self.assertEqual(ask_last(*service, apart(1, 0), best()), [0, 10, 1, 2, 0, 1])

    def test_together(self):
        service = [begins(1, 1), *streets(5, 5)]
        self.assertEqual(ask_last(*service, best()), [0, 5, 1, 2, 0, 1])
        self.assertEqual(ask_last(*service, together(0, 1), best()), [0, 10, 1, 2, 0, 0])
        self.assertEqual(ask_last(*service, together(1, 0), best()), [0, 10, 1, 2, 0, 0])

    def test_apart_and_together(self):
        service = [begins(1, 1), *streets(5, 5, 5)]
        self.assertEqual(ask_last(*service, apart(0, 1), together(1, 2), best()), [0, 10, 1, 2, 0, 1, 1])
        service = [begins(2, 1), *streets(8, 6, 1)]
        self.assertEqual(ask_last(*service, best()), [0, 6, 1, 1, 0, 1, 0])
        self.assertEqual(ask_last(*service, apart(0, 2), together(1, 2), best()), [0, 7, 1, 1, 0, 1, 1])

    def test_as_many_apart_from_one_another_as_there_are_ploughs(self):
        service = [begins(1, 1, 1), *streets(1, 1, 1), apart(0, 1), apart(1, 2), apart(2, 0)]
        self.assertEqual(ask_last(*service, best()), [0, 1, 1, 6, 0, 1, 2])


class NoPlanTest(unittest.TestCase):
    def test_more_apart_from_one_another_than_there_are_ploughs(self):
        for count in (1, 2, 3):
            pairs = [apart(one, other) for one in range(count + 1) for other in range(one)]
            service = [begins(*[5] * count), *streets(*[3] * (count + 1)), *pairs]
            with self.subTest(ploughs=count):
                self.assertEqual(ask_last(*service, best()), [-6])
                self.assertEqual(ask_last(*service[:-1], best())[0], 0)

    def test_both_apart_and_together(self):
        for pairs in ((apart(0, 1), together(0, 1)), (together(0, 1), apart(1, 0))):
            with self.subTest(pairs=pairs):
                self.assertEqual(ask_last(begins(5, 6, 7), *streets(1, 2, 3), *pairs, best()), [-6])

    def test_apart_and_together_by_way_of_another_street(self):
        service = [begins(5, 6, 7), *streets(1, 2, 3), together(0, 1), together(1, 2), apart(0, 2)]
        self.assertEqual(ask_last(*service, best()), [-6])

    def test_after_the_refusal_all_is_as_it_was(self):
        told = ask_whole(begins(5), *streets(10, 10), apart(0, 1), best(), street(3), best(), apart(1, 0),
                         begins(5, 5), best(), street(10), best())
        self.assertEqual(told[3:], [[0], [-6], [2], [-6], [-4], [0], [0, 0, 1, 1], [0], [0, 2, 1, 2, 0]])


if __name__ == "__main__":
    unittest.main()
