import unittest

from line import BIG, last, move, numbers, service, step

ALL_OF_THREE_VERSIONS = [(0, 1), (0, 2), (1, 0), (1, 2), (2, 0), (2, 1)]


class Ordinary(unittest.TestCase):
    def test_answers_how_many_moves_the_service_has_then(self):
        told = [move(0, old, new) for old, new in ALL_OF_THREE_VERSIONS]
        self.assertEqual(numbers(service(1, 0, 3, 0), *told), [0, 1, 2, 3, 4, 5, 6])

    def test_each_service_counts_its_own(self):
        self.assertEqual(
            numbers(service(1, 0, 2, 0), service(1, 0, 2, 0), move(0, 0, 1), move(1, 0, 1), move(0, 1, 0)),
            [0, 1, 1, 1, 2])

    def test_a_move_leads_one_way_for_its_own_service(self):
        begun = [service(1, 0, 3, 0), service(1, 0, 3, 0), move(0, 0, 1), move(1, 1, 0)]
        self.assertEqual(last(*begun, step(0, 0, 1, 1)), 0)
        self.assertEqual(last(*begun, step(0, 0, 2, 1)), -2)
        self.assertEqual(last(*begun, step(1, 0, 1, 1)), -2)
        self.assertEqual(last(*begun, step(0, 0, 1, 1), step(0, 1, 0, 1)), -2)


class NoSuch(unittest.TestCase):
    def test_no_such_service(self):
        self.assertEqual(numbers(move(0, 0, 1)), [-2])
        begun = [service(1, 0, 3, 0), service(1, 0, 3, 0)]
        for other in (2, 3, BIG):
            with self.subTest(service=other):
                self.assertEqual(last(*begun, move(other, 0, 1)), -2)
        self.assertEqual(last(*begun, move(1, 0, 1)), 1)

    def test_no_such_version(self):
        for versions in (1, 2, 3):
            for given in ((versions, 0), (0, versions), (BIG, 0), (0, BIG), (BIG, BIG - 1)):
                with self.subTest(versions=versions, given=given):
                    self.assertEqual(last(service(1, 0, versions, 0), move(0, *given)), -2)

    def test_versions_of_another_service_are_not_asked(self):
        begun = [service(1, 0, 3, 0), service(1, 0, 1, 0)]
        self.assertEqual(last(*begun, move(1, 0, 2)), -2)
        self.assertEqual(last(*begun, move(1, 2, 0)), -2)


class NotNew(unittest.TestCase):
    def test_both_versions_the_same(self):
        for version in (0, 1, 2):
            with self.subTest(version=version):
                self.assertEqual(last(service(1, 0, 3, 0), move(0, version, version)), -4)

    def test_that_move_already(self):
        self.assertEqual(numbers(service(1, 0, 3, 0), move(0, 0, 2), move(0, 0, 2)), [0, 1, -4])

    def test_the_way_back_is_another_move(self):
        self.assertEqual(numbers(service(1, 0, 3, 0), move(0, 0, 2), move(0, 2, 0)), [0, 1, 2])

    def test_every_move_told_again_when_all_are_there(self):
        told = [move(0, old, new) for old, new in ALL_OF_THREE_VERSIONS]
        for again in told:
            with self.subTest(again=again):
                self.assertEqual(last(service(1, 0, 3, 0), *told, again), -4)


class Refusals(unittest.TestCase):
    def test_no_such_is_told_before_not_new(self):
        begun = [service(1, 0, 2, 0), move(0, 0, 1)]
        self.assertEqual(last(*begun, move(1, 0, 0)), -2)
        self.assertEqual(last(*begun, move(1, 0, 1)), -2)
        self.assertEqual(last(*begun, move(0, 2, 2)), -2)
        self.assertEqual(last(*begun, move(BIG, BIG, BIG)), -2)

    def test_all_is_as_it_was(self):
        refused = [move(0, 0, 0), move(0, 0, 1), move(0, 0, 3), move(1, 0, 2)]
        self.assertEqual(
            numbers(service(1, 0, 3, 0), move(0, 0, 1), *refused, move(0, 0, 2), step(0, 0, 1, 1)),
            [0, 1, -4, -4, -2, -2, 2, 0])


if __name__ == "__main__":
    unittest.main()
