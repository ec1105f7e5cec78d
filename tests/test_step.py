import unittest

from line import BIG, clash, last, move, numbers, service, step

# All moves of one service with three versions.
MOVES = [move(0, 0, 1), move(0, 0, 2), move(0, 1, 0), move(0, 1, 2), move(0, 2, 0), move(0, 2, 1)]


def one_service(copies, up):
    return [service(copies, up, 3, 2)] + MOVES


class Ordinary(unittest.TestCase):
    def test_one_copy_and_back(self):
        self.assertEqual(
            numbers(*one_service(1, 0), step(0, 0, 1, 1), step(0, 0, 1, 1), step(0, 1, 0, 1), step(0, 0, 1, 1))[7:],
            [0, -2, 0, 0])

    def test_one_copy_after_another(self):
        self.assertEqual(
            numbers(*one_service(2, 1), step(0, 0, 1, 1), step(0, 0, 2, 1), step(0, 0, 1, 1))[7:], [0, 0, -2])

    def test_both_copies_at_the_same_time(self):
        begun = [*one_service(2, 0), step(0, 0, 2, 2)]
        self.assertEqual(numbers(*begun, step(0, 0, 1, 1), step(0, 2, 1, 2), step(0, 1, 0, 1))[7:], [0, -2, 0, 0])

    def test_copies_come_together(self):
        begun = [*one_service(2, 0), step(0, 0, 1, 1), step(0, 0, 2, 1), step(0, 1, 2, 1)]
        self.assertEqual(numbers(*begun, step(0, 2, 0, 2))[7:], [0, 0, 0, 0])

    def test_a_step_is_of_its_own_service_alone(self):
        begun = [service(1, 0, 2, 1), service(1, 0, 2, 1), move(0, 0, 1), move(1, 0, 1), step(1, 0, 1, 1)]
        self.assertEqual(numbers(*begun, step(1, 0, 1, 1), step(0, 0, 1, 1))[4:], [0, -2, 0])

    def test_a_way_of_several_services(self):
        begun = [service(2, 1, 2, 1), service(1, 0, 2, 1), move(0, 0, 1), move(1, 0, 1), clash(0, 0, 1, 1)]
        way = [step(0, 0, 1, 1), step(0, 0, 1, 1), step(1, 0, 1, 1)]
        self.assertEqual(numbers(*begun, *way)[5:], [0, 0, 0])


class CannotBeDone(unittest.TestCase):
    def test_no_such_service(self):
        self.assertEqual(numbers(step(0, 0, 1, 1)), [-2])
        for other in (1, 2, BIG):
            with self.subTest(service=other):
                self.assertEqual(last(*one_service(2, 0), step(other, 0, 1, 1)), -2)

    def test_no_such_version(self):
        for given in ((3, 0), (0, 3), (BIG, 0), (0, BIG), (BIG, BIG)):
            with self.subTest(given=given):
                self.assertEqual(last(*one_service(2, 0), step(0, *given, 1)), -2)

    def test_no_such_move(self):
        begun = [service(2, 0, 3, 2), move(0, 0, 1), move(0, 1, 2)]
        self.assertEqual(last(*begun, step(0, 0, 2, 1)), -2)
        self.assertEqual(last(*begun, step(0, 0, 0, 1)), -2)
        self.assertEqual(last(*begun, step(0, 0, 1, 1), step(0, 1, 0, 1)), -2)

    def test_no_copy_is_no_step(self):
        for copies in (1, 2):
            with self.subTest(copies=copies):
                self.assertEqual(last(*one_service(copies, 0), step(0, 0, 1, 0)), -2)
        self.assertEqual(last(*one_service(2, 0), step(0, 1, 0, 0)), -2)

    def test_not_so_many_copies_of_the_first_version(self):
        self.assertEqual(last(*one_service(1, 0), step(0, 0, 1, 2)), -2)
        self.assertEqual(last(*one_service(2, 0), step(0, 0, 1, 3)), -2)
        self.assertEqual(last(*one_service(2, 0), step(0, 0, 1, BIG)), -2)
        self.assertEqual(last(*one_service(2, 0), step(0, 1, 0, 1)), -2)
        self.assertEqual(last(*one_service(2, 0), step(0, 0, 1, 1), step(0, 0, 1, 2)), -2)
        self.assertEqual(last(*one_service(2, 0), step(0, 0, 1, 1), step(0, 1, 2, 2)), -2)

    def test_copies_that_have_to_be_up(self):
        self.assertEqual(last(*one_service(1, 0), step(0, 0, 1, 1)), 0)
        self.assertEqual(last(*one_service(2, 0), step(0, 0, 1, 1)), 0)
        self.assertEqual(last(*one_service(2, 0), step(0, 0, 1, 2)), 0)
        self.assertEqual(last(*one_service(2, 1), step(0, 0, 1, 1)), 0)
        self.assertEqual(last(*one_service(2, 1), step(0, 0, 1, 2)), -2)


class MayNotBeDone(unittest.TestCase):
    def test_with_another_service_behind_the_step(self):
        begun = [*one_service(2, 0), service(1, 0, 2, 1), clash(0, 1, 1, 0)]
        self.assertEqual(last(*begun, step(0, 0, 1, 1)), -5)
        self.assertEqual(last(*begun, step(0, 0, 1, 2)), -5)
        self.assertEqual(last(*begun, step(0, 0, 2, 1)), 0)

    def test_told_from_the_other_side(self):
        begun = [*one_service(1, 0), service(1, 0, 2, 1), clash(1, 0, 0, 1)]
        self.assertEqual(last(*begun, step(0, 0, 1, 1)), -5)
        self.assertEqual(last(*begun, step(0, 0, 2, 1)), 0)

    def test_one_there_only_before_the_other_only_behind(self):
        for told in (clash(0, 0, 0, 1), clash(0, 1, 0, 0)):
            for copies in (1, 2):
                with self.subTest(told=told, copies=copies):
                    begun = [*one_service(copies, 0), told]
                    # With all copies taken, none of the first version is there behind the step.
                    self.assertEqual(last(*begun, step(0, 0, 1, copies)), -5)
                    self.assertEqual(last(*begun, step(0, 0, 2, copies)), 0)
                    self.assertEqual(last(*begun, step(0, 0, 2, copies), step(0, 2, 1, copies)), 0)

    def test_one_there_before_and_behind_the_other_only_behind(self):
        self.assertEqual(last(*one_service(2, 1), clash(0, 0, 0, 1), step(0, 0, 1, 1)), -5)

    def test_a_copy_that_stays_clashes_with_where_the_other_one_goes(self):
        begun = [*one_service(2, 0), clash(0, 0, 0, 2), step(0, 0, 1, 1)]
        self.assertEqual(last(*begun, step(0, 1, 2, 1)), -5)
        self.assertEqual(last(*begun, step(0, 0, 1, 1), step(0, 1, 2, 1)), 0)

    def test_a_copy_that_leaves_and_another_service(self):
        # The clash is of what leaves and what isn't there yet: only the second step brings them side by side.
        begun = [*one_service(1, 0), service(1, 0, 2, 1), move(1, 0, 1), clash(0, 0, 1, 1)]
        self.assertEqual(last(*begun, step(0, 0, 1, 1)), 0)
        self.assertEqual(last(*begun, step(1, 0, 1, 1)), -5)
        self.assertEqual(last(*begun, step(0, 0, 1, 1), step(1, 0, 1, 1)), 0)
        self.assertEqual(last(*begun, step(0, 0, 1, 1), step(1, 0, 1, 1), step(0, 1, 0, 1)), -5)

    def test_versions_that_are_not_there_do_not_count(self):
        begun = [*one_service(2, 0), service(1, 0, 3, 1), clash(0, 2, 1, 1), clash(0, 1, 1, 2), clash(0, 0, 0, 2)]
        self.assertEqual(last(*begun, step(0, 0, 1, 1)), 0)

    def test_every_clash_is_heeded(self):
        harmless = [clash(0, 2, 1, 2), clash(0, 0, 1, 2), clash(0, 1, 1, 2)]
        for place in range(len(harmless) + 1):
            with self.subTest(place=place):
                told = harmless[:place] + [clash(1, 0, 0, 1)] + harmless[place:]
                self.assertEqual(last(*one_service(1, 0), service(1, 0, 3, 1), *told, step(0, 0, 1, 1)), -5)


class Refusals(unittest.TestCase):
    def test_cannot_is_told_before_may_not(self):
        begun = [service(2, 1, 3, 2), move(0, 0, 1), move(0, 1, 0), clash(0, 0, 0, 1), clash(0, 0, 0, 2)]
        self.assertEqual(last(*begun, step(0, 0, 1, 1)), -5)
        self.assertEqual(last(*begun, step(0, 0, 1, 0)), -2)
        self.assertEqual(last(*begun, step(0, 0, 1, 2)), -2)
        self.assertEqual(last(*begun, step(0, 0, 1, 3)), -2)
        self.assertEqual(last(*begun, step(0, 0, 2, 1)), -2)
        self.assertEqual(last(*begun, step(0, 1, 0, 1)), -2)

    def test_all_is_as_it_was_where_it_cannot(self):
        refused = [step(0, 0, 1, 2), step(0, 0, 1, 0), step(0, 1, 2, 1), step(0, 0, 3, 1)]
        self.assertEqual(
            numbers(*one_service(2, 1), *refused, clash(0, 0, 0, 1), step(0, 0, 2, 1), step(0, 0, 2, 1))[7:],
            [-2, -2, -2, -2, 1, 0, 0])

    def test_all_is_as_it_was_where_it_may_not(self):
        begun = [*one_service(2, 0), clash(0, 0, 0, 1), step(0, 0, 1, 1), step(0, 0, 1, 2)]
        # Version 1 isn't there, so it can clash with 2 later on; both copies are still of version 0.
        self.assertEqual(
            numbers(*begun, step(0, 1, 2, 1), clash(0, 1, 0, 2), step(0, 0, 2, 2))[7:], [1, -5, -5, -2, 2, 0])


if __name__ == "__main__":
    unittest.main()
