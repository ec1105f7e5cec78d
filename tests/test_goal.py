import unittest

from line import BIG, all_moves, answered, begins, clash, goal, last, may, move, now, numbers, plan, service, step, told


class Ordinary(unittest.TestCase):
    def test_answers_0(self):
        for versions in (1, 2, 3):
            for wanted in range(versions):
                with self.subTest(versions=versions, wanted=wanted):
                    self.assertEqual(last(service(1, 0, versions, 0), goal(0, wanted)), 0)

    def test_the_wanted_one_told_again(self):
        self.assertEqual(numbers(service(1, 0, 2, 1), goal(0, 1), goal(0, 1), plan())[1:], [0, 0, -6])

    def test_plan_asks_for_the_wanted_one_now(self):
        begun = [service(2, 0, 3, 0), *all_moves(0)]
        self.assertEqual(
            answered(*begun, plan(), goal(0, 1), plan(), goal(0, 2), plan(), goal(0, 0), plan())[7:],
            [[0], [0], [1, 0, 0, 1, 2], [0], [1, 0, 0, 2, 2], [0], [0]])

    def test_may_asks_for_the_wanted_one_now(self):
        begun = [service(1, 0, 3, 0), *all_moves(0)]
        self.assertEqual(
            answered(*begun, may(), goal(0, 1), may(), goal(0, 2), may())[7:],
            [[2, 0, 0, 1, 1, 2, 0, 0, 2, 1, 2], [0], [2, 0, 0, 1, 1, 1, 0, 0, 2, 1, 2], [0],
             [2, 0, 0, 1, 1, 2, 0, 0, 2, 1, 1]])

    def test_a_goal_to_which_there_is_no_way(self):
        begun = [service(1, 0, 3, 1), move(0, 0, 1), goal(0, 2)]
        self.assertEqual(answered(*begun, plan(), may(), goal(0, 1), plan())[3:],
                         [[-6], [1, 0, 0, 1, 1, 0], [0], [1, 0, 0, 1, 1]])

    def test_the_other_services_keep_their_own(self):
        services = [service(1, 0, 2, 0), service(1, 0, 2, 1), service(1, 0, 2, 0)]
        begun = [*services, move(0, 0, 1), move(1, 0, 1), move(2, 0, 1)]
        self.assertEqual(told(*begun, goal(2, 1), plan()), [2, 1, 0, 1, 1, 2, 0, 1, 1])
        self.assertEqual(told(*begun, goal(1, 0), plan()), [0])
        self.assertEqual(told(*begun, goal(0, 1), plan()), [2, 0, 0, 1, 1, 1, 0, 1, 1])

    def test_a_version_that_clashes_with_what_is_there_may_be_wanted(self):
        begun = [service(1, 0, 2, 0), service(1, 0, 1, 0), move(0, 0, 1), clash(0, 1, 1, 0)]
        self.assertEqual(numbers(*begun, goal(0, 1), plan())[4:], [0, -6])

    def test_behind_a_step(self):
        begun = [service(1, 0, 2, 1), move(0, 0, 1), move(0, 1, 0), step(0, 0, 1, 1)]
        self.assertEqual(answered(*begun, plan(), goal(0, 0), plan())[4:], [[0], [0], [1, 0, 1, 0, 1]])


class NoSuch(unittest.TestCase):
    def test_no_services(self):
        self.assertEqual(numbers(goal(0, 0), goal(BIG, BIG)), [-2, -2])
        self.assertEqual(last(service(1, 0, 2, 1), begins(), goal(0, 0)), -2)

    def test_the_last_service_and_the_one_past_it(self):
        for services in (1, 2, 3):
            with self.subTest(services=services):
                begun = [service(1, 0, 2, 0)] * services
                self.assertEqual(last(*begun, goal(services - 1, 1)), 0)
                self.assertEqual(last(*begun, goal(services, 0)), -2)
                self.assertEqual(last(*begun, goal(BIG, 0)), -2)

    def test_the_last_version_and_the_one_past_it(self):
        for versions in (1, 2, 3):
            with self.subTest(versions=versions):
                begun = [service(1, 0, versions, 0)]
                self.assertEqual(last(*begun, goal(0, versions - 1)), 0)
                self.assertEqual(last(*begun, goal(0, versions)), -2)
                self.assertEqual(last(*begun, goal(0, BIG)), -2)
                self.assertEqual(last(*begun, goal(0, BIG - 1)), -2)

    def test_versions_of_another_service_are_not_asked(self):
        begun = [service(1, 0, 3, 0), service(1, 0, 1, 0), service(1, 0, 2, 0)]
        self.assertEqual(numbers(*begun, goal(0, 2), goal(1, 1), goal(2, 2), goal(2, 1))[3:], [0, -2, -2, 0])

    def test_all_is_as_it_was(self):
        begun = [service(1, 0, 3, 1), service(1, 0, 2, 1), *all_moves(0), move(1, 0, 1)]
        asked = [now(), plan(), may()]
        before = answered(*begun, *asked)[-3:]
        for refused in (goal(0, 3), goal(1, 2), goal(2, 0), goal(BIG, 0), goal(0, BIG), goal(BIG, BIG)):
            with self.subTest(refused=refused):
                self.assertEqual(answered(*begun, refused, *asked)[-4:], [[-2]] + before)


if __name__ == "__main__":
    unittest.main()
