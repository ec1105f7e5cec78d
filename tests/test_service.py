import unittest

from line import BIG, clash, last, move, numbers, service, step

THREE = [service(1, 0, 1, 0), service(2, 0, 3, 2), service(2, 1, 2, 1)]


class Ordinary(unittest.TestCase):
    def test_services_are_numbered_from_0(self):
        self.assertEqual(numbers(*THREE), [0, 1, 2])

    def test_all_copies_are_of_version_0_at_first(self):
        for copies in (1, 2):
            with self.subTest(copies=copies):
                begun = [service(copies, 0, 3, 0), move(0, 0, 1), move(0, 1, 0), move(0, 2, 0)]
                self.assertEqual(last(*begun, step(0, 0, 1, copies)), 0)
                self.assertEqual(last(*begun, step(0, 0, 1, copies + 1)), -2)
                self.assertEqual(last(*begun, step(0, 1, 0, 1)), -2)
                self.assertEqual(last(*begun, step(0, 2, 0, 1)), -2)

    def test_as_many_versions_as_told(self):
        for versions in (1, 2, 3):
            with self.subTest(versions=versions):
                begun = [service(1, 0, versions, 0)]
                # Both versions the same is refused behind a version that isn't there.
                self.assertEqual(last(*begun, move(0, versions - 1, versions - 1)), -4)
                self.assertEqual(last(*begun, move(0, versions, versions)), -2)

    def test_each_service_has_its_own_numbers(self):
        begun = [service(1, 0, 1, 0), service(2, 1, 3, 2), service(2, 0, 2, 1), move(1, 0, 2), move(2, 0, 1)]
        self.assertEqual(last(*begun, step(1, 0, 2, 2)), -2)
        self.assertEqual(last(*begun, step(2, 0, 1, 2)), 0)
        self.assertEqual(last(*begun, move(0, 0, 1)), -2)
        self.assertEqual(last(*begun, move(2, 0, 2)), -2)


class Range(unittest.TestCase):
    def test_every_number_in_its_range_is_taken(self):
        for copies in (1, 2):
            for up in range(copies):
                for versions in (1, 2, 3):
                    for wanted in range(versions):
                        with self.subTest(copies=copies, up=up, versions=versions, wanted=wanted):
                            self.assertEqual(numbers(service(copies, up, versions, wanted)), [0])

    def test_a_number_out_of_its_range(self):
        refused = [
            (0, 0, 1, 0), (3, 0, 1, 0), (3, 2, 3, 2), (BIG, 0, 1, 0),
            (1, 1, 1, 0), (2, 2, 3, 0), (1, 2, 1, 0), (2, 3, 1, 0), (2, BIG, 1, 0),
            (1, 0, 0, 0), (1, 0, 4, 0), (2, 1, 4, 3), (1, 0, BIG, 0),
            (1, 0, 1, 1), (1, 0, 2, 2), (1, 0, 3, 3), (2, 1, 3, BIG),
            (0, 0, 0, 0), (BIG, BIG, BIG, BIG),
        ]
        for given in refused:
            with self.subTest(given=given):
                self.assertEqual(numbers(service(*given)), [-1])

    def test_all_is_as_it_was_behind_a_number_out_of_its_range(self):
        self.assertEqual(numbers(service(3, 0, 3, 0), move(0, 0, 1), service(1, 0, 2, 1)), [-1, -2, 0])


class Full(unittest.TestCase):
    def test_a_fourth_service(self):
        self.assertEqual(numbers(*THREE, service(1, 0, 1, 0)), [0, 1, 2, -7])

    def test_a_number_out_of_its_range_is_told_before_too_many_services(self):
        for given in ((0, 0, 1, 0), (1, 1, 1, 0), (1, 0, 4, 0), (1, 0, 1, BIG)):
            with self.subTest(given=given):
                self.assertEqual(last(*THREE, service(*given)), -1)

    def test_a_refused_service_does_not_count(self):
        self.assertEqual(
            numbers(THREE[0], service(0, 0, 1, 0), THREE[1], service(1, 1, 1, 0), THREE[2], THREE[0]),
            [0, -1, 1, -1, 2, -7])

    def test_all_is_as_it_was_behind_a_fourth_service(self):
        begun = [*THREE, service(2, 0, 3, 0)]
        self.assertEqual(last(*begun, move(3, 0, 1)), -2)
        self.assertEqual(last(*begun, clash(3, 0, 0, 0)), -2)
        self.assertEqual(last(*begun, move(2, 0, 2)), -2)
        self.assertEqual(numbers(*begun, move(2, 0, 1), step(2, 0, 1, 2), step(2, 0, 1, 1))[4:], [1, -2, 0])


if __name__ == "__main__":
    unittest.main()
