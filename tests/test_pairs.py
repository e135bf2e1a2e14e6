import unittest

from lines import MOST, apart, ask, begins, street, together
from snowploughs.service import Service

THREE = [begins(5, 6), street(10), street(20), street(30)]
BOTH_KINDS = ((apart, together), (together, apart))


def after_three(*calls):
    """The answers behind those of a service with three streets."""
    return ask(*THREE, *calls)[len(THREE):]


class PairsTest(unittest.TestCase):
    def test_every_pair_can_be_told(self):
        for tell, _ in BOTH_KINDS:
            with self.subTest(tell=tell.__name__):
                self.assertEqual(after_three(tell(0, 1), tell(2, 0), tell(1, 2)), [0, 0, 0])

    def test_a_street_that_is_not_there(self):
        for tell, _ in BOTH_KINDS:
            for missing in (3, 4, 6, 1000, MOST):
                with self.subTest(tell=tell.__name__, missing=missing):
                    self.assertEqual(after_three(tell(missing, 0)), [-2])
                    self.assertEqual(after_three(tell(2, missing)), [-2])
                    self.assertEqual(after_three(tell(missing, MOST - 1)), [-2])

    def test_no_streets_at_all(self):
        for tell, _ in BOTH_KINDS:
            with self.subTest(tell=tell.__name__):
                self.assertEqual(ask(tell(0, 1)), [-2])
                self.assertEqual(ask(begins(5), tell(1, 0)), [0, -2])

    def test_both_the_same(self):
        for tell, _ in BOTH_KINDS:
            for number in (0, 1, 2):
                with self.subTest(tell=tell.__name__, number=number):
                    self.assertEqual(after_three(tell(number, number)), [-4])

    def test_both_the_same_and_not_there(self):
        for tell, _ in BOTH_KINDS:
            for number in (3, MOST):
                with self.subTest(tell=tell.__name__, number=number):
                    self.assertEqual(after_three(tell(number, number)), [-2])

    def test_told_already_either_way_round(self):
        for tell, _ in BOTH_KINDS:
            with self.subTest(tell=tell.__name__):
                self.assertEqual(after_three(tell(0, 1), tell(0, 1)), [0, -4])
                self.assertEqual(after_three(tell(0, 1), tell(1, 0)), [0, -4])
                self.assertEqual(after_three(tell(2, 1), tell(2, 1)), [0, -4])
                self.assertEqual(after_three(tell(2, 1), tell(1, 2)), [0, -4])

    def test_told_already_a_while_ago(self):
        for tell, other_kind in BOTH_KINDS:
            with self.subTest(tell=tell.__name__):
                told = after_three(tell(0, 1), tell(1, 2), street(9), other_kind(3, 0), tell(0, 2), tell(1, 0),
                                   tell(2, 1))
                self.assertEqual(told, [0, 0, 3, 0, 0, -4, -4])

    def test_the_other_kind_may_be_told_of_the_same_two(self):
        for tell, other_kind in BOTH_KINDS:
            with self.subTest(tell=tell.__name__):
                self.assertEqual(after_three(tell(0, 1), other_kind(0, 1)), [0, 0])
                self.assertEqual(after_three(tell(0, 1), other_kind(1, 0)), [0, 0])
                told = after_three(tell(0, 1), other_kind(1, 0), tell(1, 0), other_kind(0, 1))
                self.assertEqual(told, [0, 0, -4, -4])

    def test_what_follows_from_pairs_was_not_told(self):
        self.assertEqual(after_three(together(0, 1), together(1, 2), together(0, 2), apart(0, 2)), [0, 0, 0, 0])

    def test_after_a_refusal_all_is_as_it_was(self):
        for tell, other_kind in BOTH_KINDS:
            with self.subTest(tell=tell.__name__):
                told = after_three(tell(0, 3), tell(3, 1), tell(3, 3), street(9), tell(0, 3), tell(1, 3),
                                   tell(2, 2), tell(2, 0), tell(0, 2), other_kind(0, 2), street(8), tell(4, 2))
                self.assertEqual(told, [-2, -2, -2, 3, 0, 0, -4, 0, -4, 0, 4, 0])

    def test_pairs_are_kept_as_and_when_they_were_told(self):
        service = Service()
        for long in (10, 20, 30):
            service.add_street(long)
        for one, other in ((2, 1), (1, 2), (0, 0), (3, 0), (0, 2)):
            service.tell_apart(one, other)
        for one, other in ((1, 0), (0, 3), (0, 1), (1, 1)):
            service.tell_together(one, other)
        self.assertEqual(service.apart_pairs, [(2, 1), (0, 2)])
        self.assertEqual(service.together_pairs, [(1, 0)])
        self.assertEqual(service.ploughs, [1])
        self.assertEqual(service.streets, [10, 20, 30])


if __name__ == "__main__":
    unittest.main()
