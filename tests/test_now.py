import unittest

from line import answered, begins, clash, goal, move, now, service, step, told


class Ordinary(unittest.TestCase):
    def test_no_services(self):
        self.assertEqual(told(now()), [0])

    def test_one_service(self):
        for copies in (1, 2):
            for versions in (1, 2, 3):
                with self.subTest(copies=copies, versions=versions):
                    begun = [service(copies, 0, versions, versions - 1)]
                    self.assertEqual(told(*begun, now()), [1, copies] + [0] * (versions - 1))

    def test_two_services(self):
        self.assertEqual(told(service(2, 1, 3, 2), service(1, 0, 1, 0), now()), [2, 2, 0, 0, 1])
        self.assertEqual(told(service(1, 0, 1, 0), service(2, 1, 3, 2), now()), [2, 1, 2, 0, 0])
        self.assertEqual(told(service(1, 0, 2, 1), service(2, 0, 2, 0), now()), [2, 1, 0, 2, 0])

    def test_three_services(self):
        self.assertEqual(
            told(service(1, 0, 1, 0), service(2, 1, 2, 1), service(2, 0, 3, 2), now()), [3, 1, 2, 0, 2, 0, 0])
        self.assertEqual(
            told(service(2, 0, 3, 0), service(1, 0, 2, 0), service(2, 1, 1, 0), now()), [3, 2, 0, 0, 1, 0, 2])

    def test_services_as_they_come(self):
        self.assertEqual(
            answered(now(), service(1, 0, 2, 1), now(), service(2, 0, 1, 0), now())[::2],
            [[0], [1, 1, 0], [2, 1, 0, 2]])


class BehindSteps(unittest.TestCase):
    BEGUN = [
        service(2, 0, 3, 2), service(1, 0, 1, 0), service(2, 1, 2, 1),
        move(0, 0, 1), move(0, 1, 2), move(0, 0, 2), move(2, 0, 1),
    ]

    def test_before_and_behind_a_step(self):
        self.assertEqual(
            answered(*self.BEGUN, now(), step(0, 0, 1, 1), now(), step(2, 0, 1, 1), now())[7:],
            [[3, 2, 0, 0, 1, 2, 0], [0], [3, 1, 1, 0, 1, 2, 0], [0], [3, 1, 1, 0, 1, 1, 1]])

    def test_behind_a_step_of_both_copies(self):
        self.assertEqual(told(*self.BEGUN, step(0, 0, 2, 2), now()), [3, 0, 0, 2, 1, 2, 0])

    def test_each_copy_of_another_version(self):
        self.assertEqual(told(*self.BEGUN, step(0, 0, 2, 1), step(0, 0, 1, 1), now()), [3, 0, 1, 1, 1, 2, 0])

    def test_behind_a_step_that_cannot_be_done(self):
        for given in ((0, 1, 2, 1), (0, 0, 1, 3), (0, 0, 1, 0), (2, 0, 1, 2), (1, 0, 0, 1), (3, 0, 1, 1)):
            with self.subTest(given=given):
                self.assertEqual(
                    answered(*self.BEGUN, step(*given), now())[7:], [[-2], [3, 2, 0, 0, 1, 2, 0]])

    def test_behind_a_step_that_may_not_be_done(self):
        self.assertEqual(
            answered(*self.BEGUN, clash(0, 1, 1, 0), step(0, 0, 1, 1), step(0, 0, 1, 2), now())[8:],
            [[-5], [-5], [3, 2, 0, 0, 1, 2, 0]])


class BehindOthers(unittest.TestCase):
    def test_behind_begins(self):
        begun = [service(2, 0, 2, 1), move(0, 0, 1), step(0, 0, 1, 1), begins()]
        self.assertEqual(answered(*begun, now(), service(1, 0, 3, 1), now())[4:], [[0], [0], [1, 1, 0, 0]])

    def test_behind_a_refused_service(self):
        self.assertEqual(told(service(1, 0, 2, 1), service(3, 0, 2, 1), now()), [1, 1, 0])
        self.assertEqual(told(*[service(1, 0, 1, 0)] * 4, now()), [3, 1, 1, 1])

    def test_moves_clashes_and_goals_take_no_copy_anywhere(self):
        begun = [service(2, 0, 3, 2), move(0, 0, 1), clash(0, 0, 0, 2), goal(0, 1)]
        self.assertEqual(told(*begun, now()), [1, 2, 0, 0])

    def test_now_changes_nothing(self):
        self.assertEqual(answered(service(2, 0, 3, 2), now(), now(), now())[1:], [[1, 2, 0, 0]] * 3)


if __name__ == "__main__":
    unittest.main()
