import unittest

from line import BIG, clash, last, move, numbers, service, step

TWO = [service(2, 0, 3, 2), service(1, 0, 2, 1)]
THREE = [service(1, 0, 3, 0), service(1, 0, 3, 0), service(1, 0, 3, 0)]


def free_pairs():
    """Of three services with three versions each, the pairs that aren't there at first."""
    sides = [(one, version) for one in range(3) for version in range(3)]
    pairs = [(first, other) for place, first in enumerate(sides) for other in sides[place + 1:]]
    return [first + other for first, other in pairs if first[1] > 0 or other[1] > 0]


TWENTY = [clash(*pair) for pair in free_pairs()[:20]]
BEHIND_TWENTY = [clash(*pair) for pair in free_pairs()[20:]]


class Ordinary(unittest.TestCase):
    def test_answers_how_many_clashes_there_are_then(self):
        self.assertEqual(
            numbers(*TWO, clash(0, 1, 1, 0), clash(1, 1, 0, 0), clash(0, 2, 1, 1))[2:], [1, 2, 3])

    def test_two_versions_of_the_same_service(self):
        self.assertEqual(numbers(*TWO, clash(0, 0, 0, 1), clash(0, 2, 0, 1), clash(1, 1, 1, 0))[2:], [1, 2, 3])

    def test_the_same_version_number_of_two_services(self):
        self.assertEqual(last(*TWO, clash(0, 1, 1, 1)), 1)

    def test_a_clash_is_heeded_from_then_on(self):
        begun = [*TWO, move(0, 0, 1)]
        self.assertEqual(last(*begun, step(0, 0, 1, 1)), 0)
        self.assertEqual(last(*begun, clash(0, 1, 1, 0), step(0, 0, 1, 1)), -5)
        self.assertEqual(last(*begun, clash(1, 0, 0, 1), step(0, 0, 1, 1)), -5)


class NoSuch(unittest.TestCase):
    def test_in_a_house_without_services(self):
        self.assertEqual(numbers(clash(0, 0, 0, 1)), [-2])

    def test_no_such_service_or_version(self):
        refused = [
            (2, 0, 1, 1), (BIG, 0, 1, 1), (0, 3, 1, 1), (0, BIG, 1, 1), (1, 2, 0, 1),
            (0, 1, 2, 0), (0, 1, BIG, 0), (0, 1, 1, 2), (0, 1, 1, BIG), (1, 1, 0, 3),
            (BIG, BIG, BIG, BIG),
        ]
        for given in refused:
            with self.subTest(given=given):
                self.assertEqual(last(*TWO, clash(*given)), -2)

    def test_the_last_service_and_version_are_there(self):
        self.assertEqual(last(*TWO, clash(0, 2, 1, 1)), 1)
        self.assertEqual(last(*TWO, clash(1, 1, 0, 2)), 1)


class NotNew(unittest.TestCase):
    def test_told_already_this_way(self):
        self.assertEqual(numbers(*TWO, clash(0, 1, 1, 0), clash(0, 1, 1, 0))[2:], [1, -4])

    def test_told_already_the_other_way_round(self):
        self.assertEqual(numbers(*TWO, clash(0, 1, 1, 0), clash(1, 0, 0, 1))[2:], [1, -4])

    def test_two_versions_of_the_same_service_told_already(self):
        self.assertEqual(numbers(*TWO, clash(0, 1, 0, 2), clash(0, 1, 0, 2), clash(0, 2, 0, 1))[2:], [1, -4, -4])

    def test_versions_the_other_way_round_are_another_clash(self):
        self.assertEqual(numbers(*TWO, clash(0, 1, 1, 0), clash(0, 0, 1, 1))[2:], [1, 2])

    def test_one_version_of_one_service(self):
        for given in ((0, 0, 0, 0), (0, 1, 0, 1), (0, 2, 0, 2), (1, 0, 1, 0), (1, 1, 1, 1)):
            with self.subTest(given=given):
                self.assertEqual(last(*TWO, clash(*given)), -4)


class BothThere(unittest.TestCase):
    def test_both_there_at_first(self):
        self.assertEqual(last(*TWO, clash(0, 0, 1, 0)), -5)
        self.assertEqual(last(*TWO, clash(1, 0, 0, 0)), -5)

    def test_only_one_there(self):
        self.assertEqual(last(*TWO, clash(0, 0, 1, 1)), 1)
        self.assertEqual(last(*TWO, clash(0, 1, 1, 0)), 1)

    def test_it_is_asked_what_is_there_now(self):
        begun = [*TWO, move(0, 0, 1), step(0, 0, 1, 2)]
        self.assertEqual(last(*begun, clash(0, 1, 1, 0)), -5)
        self.assertEqual(last(*begun, clash(0, 0, 1, 0)), 1)
        self.assertEqual(last(*begun, clash(0, 0, 0, 1)), 1)

    def test_two_versions_of_one_service_side_by_side(self):
        begun = [*TWO, move(0, 0, 1), step(0, 0, 1, 1)]
        self.assertEqual(last(*begun, clash(0, 0, 0, 1)), -5)
        self.assertEqual(last(*begun, clash(0, 1, 0, 0)), -5)
        self.assertEqual(last(*begun, clash(0, 0, 1, 0)), -5)
        self.assertEqual(last(*begun, clash(0, 1, 1, 0)), -5)
        self.assertEqual(last(*begun, clash(0, 1, 0, 2)), 1)


class Full(unittest.TestCase):
    def test_twenty_are_taken(self):
        self.assertEqual(numbers(*THREE, *TWENTY)[3:], list(range(1, 21)))

    def test_a_twenty_first(self):
        for more in BEHIND_TWENTY:
            with self.subTest(more=more):
                self.assertEqual(last(*THREE, *TWENTY, more), -7)

    def test_all_is_as_it_was_behind_a_twenty_first(self):
        pair = free_pairs()[20]
        turned = clash(pair[2], pair[3], pair[0], pair[1])
        self.assertEqual(numbers(*THREE, *TWENTY, clash(*pair), clash(*pair), turned)[-3:], [-7, -7, -7])


class Refusals(unittest.TestCase):
    def test_no_such_is_told_before_all_others(self):
        self.assertEqual(last(*TWO, clash(0, 3, 0, 3)), -2)
        self.assertEqual(last(*TWO, clash(2, 0, 2, 0)), -2)
        self.assertEqual(last(*THREE, *TWENTY, clash(3, 0, 0, 1)), -2)
        self.assertEqual(last(*THREE, *TWENTY, clash(0, 0, 1, 3)), -2)

    def test_not_new_is_told_before_both_there(self):
        self.assertEqual(last(*TWO, clash(0, 0, 0, 0)), -4)

    def test_not_new_is_told_before_too_many(self):
        for told in TWENTY:
            turned = [3, told[3], told[4], told[1], told[2]]
            with self.subTest(told=told):
                self.assertEqual(last(*THREE, *TWENTY, told), -4)
                self.assertEqual(last(*THREE, *TWENTY, turned), -4)
        self.assertEqual(last(*THREE, *TWENTY, clash(2, 1, 2, 1)), -4)

    def test_both_there_is_told_before_too_many(self):
        self.assertEqual(last(*THREE, *TWENTY, clash(0, 0, 2, 0)), -5)

    def test_all_is_as_it_was(self):
        refused = [clash(0, 0, 1, 0), clash(0, 1, 0, 1), clash(1, 0, 0, 1), clash(0, 3, 1, 0)]
        self.assertEqual(
            numbers(*TWO, clash(0, 1, 1, 0), *refused, clash(0, 2, 1, 0))[2:], [1, -5, -4, -4, -2, 2])

    def test_a_refused_clash_is_not_heeded(self):
        self.assertEqual(
            numbers(*TWO, move(0, 0, 1), clash(0, 0, 1, 0), clash(0, 0, 0, 0), step(0, 0, 1, 2))[2:],
            [1, -5, -4, 0])


if __name__ == "__main__":
    unittest.main()
