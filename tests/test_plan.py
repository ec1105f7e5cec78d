import unittest

from line import all_moves, answered, begins, clash, goal, move, plan, service, step, told


class AsWanted(unittest.TestCase):
    def test_no_services(self):
        self.assertEqual(told(plan()), [0])
        self.assertEqual(told(service(1, 0, 2, 1), begins(), plan()), [0])

    def test_at_first(self):
        self.assertEqual(told(service(2, 1, 3, 0), plan()), [0])
        self.assertEqual(told(service(2, 1, 3, 0), service(1, 0, 1, 0), service(2, 0, 2, 0), plan()), [0])
        self.assertEqual(told(service(2, 0, 3, 0), *all_moves(0), plan()), [0])

    def test_behind_steps(self):
        begun = [service(2, 1, 2, 1), move(0, 0, 1)]
        self.assertEqual(told(*begun, step(0, 0, 1, 1), step(0, 0, 1, 1), plan()), [0])

    def test_not_as_wanted_with_one_copy_elsewhere(self):
        begun = [service(2, 0, 2, 1), move(0, 0, 1)]
        self.assertEqual(told(*begun, step(0, 0, 1, 1), plan()), [1, 0, 0, 1, 1])
        self.assertEqual(told(*begun, goal(0, 0), step(0, 0, 1, 1), plan()), [-6])


class Ways(unittest.TestCase):
    def test_one_step(self):
        self.assertEqual(told(service(1, 0, 2, 1), move(0, 0, 1), plan()), [1, 0, 0, 1, 1])

    def test_one_step_where_there_is_a_longer_way(self):
        self.assertEqual(told(service(1, 0, 3, 2), *all_moves(0), plan()), [1, 0, 0, 2, 1])

    def test_several_steps_of_one_copy(self):
        self.assertEqual(told(service(1, 0, 3, 2), move(0, 0, 1), move(0, 1, 2), plan()), [2, 0, 0, 1, 1, 0, 1, 2, 1])
        self.assertEqual(told(service(1, 0, 3, 1), move(0, 0, 2), move(0, 2, 1), plan()), [2, 0, 0, 2, 1, 0, 2, 1, 1])

    def test_several_services(self):
        begun = [service(1, 0, 2, 1), service(1, 0, 2, 0), service(2, 0, 3, 2)]
        self.assertEqual(
            told(*begun, move(0, 0, 1), move(1, 0, 1), move(2, 0, 2), plan()), [2, 0, 0, 1, 1, 2, 0, 2, 2])

    def test_copies_that_have_to_be_up_are_taken_one_at_a_time(self):
        self.assertEqual(told(service(2, 1, 2, 1), move(0, 0, 1), plan()), [2, 0, 0, 1, 1, 0, 0, 1, 1])

    def test_two_copies_at_the_same_time(self):
        self.assertEqual(told(service(2, 0, 2, 1), move(0, 0, 1), plan()), [1, 0, 0, 1, 2])
        self.assertEqual(
            told(service(2, 0, 3, 2), move(0, 0, 1), move(0, 1, 2), plan()), [2, 0, 0, 1, 2, 0, 1, 2, 2])

    def test_copies_come_together_to_be_taken_at_the_same_time(self):
        moves = [move(0, 0, 1), move(0, 1, 2), step(0, 0, 1, 1)]
        self.assertEqual(told(service(2, 0, 3, 2), *moves, plan()), [2, 0, 0, 1, 1, 0, 1, 2, 2])
        self.assertEqual(told(service(2, 1, 3, 2), *moves, plan()), [3, 0, 0, 1, 1, 0, 1, 2, 1, 0, 1, 2, 1])

    def test_it_is_from_now_on(self):
        begun = [service(1, 0, 3, 2), move(0, 0, 1), move(0, 1, 2), move(0, 2, 0)]
        self.assertEqual(
            answered(*begun, plan(), step(0, 0, 1, 1), plan(), step(0, 1, 2, 1), plan())[4::2],
            [[2, 0, 0, 1, 1, 0, 1, 2, 1], [1, 0, 1, 2, 1], [0]])


class Clashes(unittest.TestCase):
    TWO = [service(1, 0, 2, 1), service(1, 0, 2, 1), move(0, 0, 1), move(1, 0, 1)]

    def test_the_order_of_the_services(self):
        self.assertEqual(told(*self.TWO, plan()), [2, 0, 0, 1, 1, 1, 0, 1, 1])
        self.assertEqual(told(*self.TWO, clash(1, 1, 0, 0), plan()), [2, 0, 0, 1, 1, 1, 0, 1, 1])
        for turned in (clash(0, 1, 1, 0), clash(1, 0, 0, 1)):
            with self.subTest(turned=turned):
                self.assertEqual(told(*self.TWO, turned, plan()), [2, 1, 0, 1, 1, 0, 0, 1, 1])

    def test_the_order_of_three_services(self):
        begun = [*self.TWO, service(1, 0, 2, 1), move(2, 0, 1), clash(0, 1, 1, 0), clash(1, 1, 2, 0)]
        self.assertEqual(told(*begun, plan()), [3, 2, 0, 1, 1, 1, 0, 1, 1, 0, 0, 1, 1])

    def test_all_copies_of_the_other_service_first(self):
        begun = [service(2, 1, 2, 1), service(2, 1, 2, 1), move(0, 0, 1), move(1, 0, 1), clash(0, 1, 1, 0)]
        self.assertEqual(told(*begun, plan()), [4, 1, 0, 1, 1, 1, 0, 1, 1, 0, 0, 1, 1, 0, 0, 1, 1])

    def test_a_way_round_by_a_third_version(self):
        for copies in (1, 2):
            with self.subTest(copies=copies):
                begun = [service(copies, 0, 3, 1), *all_moves(0), clash(0, 0, 0, 1)]
                self.assertEqual(told(*begun, plan()), [2, 0, 0, 2, copies, 0, 2, 1, copies])

    def test_a_way_round_with_copies_that_have_to_be_up(self):
        begun = [service(2, 1, 3, 1), *all_moves(0), clash(0, 0, 0, 1)]
        self.assertEqual(told(*begun, plan()), [4, 0, 0, 2, 1, 0, 0, 2, 1, 0, 2, 1, 1, 0, 2, 1, 1])

    def test_a_service_makes_room_and_comes_back(self):
        begun = [
            service(1, 0, 3, 2), service(1, 0, 2, 0), move(0, 0, 1), move(0, 1, 2), move(1, 0, 1), move(1, 1, 0),
            clash(0, 1, 1, 0),
        ]
        self.assertEqual(told(*begun, plan()), [4, 1, 0, 1, 1, 0, 0, 1, 1, 0, 1, 2, 1, 1, 1, 0, 1])

    def test_a_clash_of_what_is_there_only_before_and_only_behind(self):
        # Both copies at the same time: version 0 is not there any more behind the step, and still it clashes.
        begun = [service(2, 0, 2, 1), move(0, 0, 1), clash(0, 0, 0, 1)]
        self.assertEqual(told(*begun, plan()), [-6])


class FirstOfSeveral(unittest.TestCase):
    def test_the_lower_service(self):
        services = [service(1, 0, 2, 1)] * 3
        self.assertEqual(
            told(*services, move(2, 0, 1), move(1, 0, 1), move(0, 0, 1), plan()),
            [3, 0, 0, 1, 1, 1, 0, 1, 1, 2, 0, 1, 1])

    def test_the_lower_service_at_a_later_step(self):
        begun = [service(1, 0, 2, 1)] * 3 + [move(2, 0, 1), move(1, 0, 1), move(0, 0, 1)]
        self.assertEqual(
            told(*begun, clash(0, 1, 1, 0), clash(2, 1, 1, 0), plan()), [3, 1, 0, 1, 1, 0, 0, 1, 1, 2, 0, 1, 1])

    def test_the_lower_service_is_told_before_the_lower_version(self):
        begun = [service(1, 0, 2, 0), service(1, 0, 2, 1), move(0, 0, 1), move(0, 1, 0), move(1, 0, 1)]
        self.assertEqual(told(*begun, step(0, 0, 1, 1), plan()), [2, 0, 1, 0, 1, 1, 0, 1, 1])

    def test_the_lower_service_is_told_before_the_fewer_copies(self):
        begun = [service(2, 0, 2, 1), service(1, 0, 2, 1), move(1, 0, 1), move(0, 0, 1)]
        self.assertEqual(told(*begun, plan()), [2, 0, 0, 1, 2, 1, 0, 1, 1])

    def test_the_lower_version_from(self):
        begun = [service(2, 1, 3, 2), *all_moves(0), step(0, 0, 1, 1)]
        self.assertEqual(told(*begun, plan()), [2, 0, 0, 2, 1, 0, 1, 2, 1])

    def test_the_lower_version_to(self):
        # Either both copies go on together from 1, or each of them goes its own way.
        begun = [service(2, 0, 3, 2), move(0, 1, 2), move(0, 0, 2), move(0, 0, 1), step(0, 0, 1, 1)]
        self.assertEqual(told(*begun, plan()), [2, 0, 0, 1, 1, 0, 1, 2, 2])

    def test_the_lower_version_from_is_told_before_the_lower_version_to(self):
        # From 1 to 0, and both on together from there, has as many steps.
        begun = [service(2, 0, 3, 2), *all_moves(0), step(0, 0, 1, 1)]
        self.assertEqual(told(*begun, plan()), [2, 0, 0, 1, 1, 0, 1, 2, 2])

    def test_fewer_steps_are_told_before_all_these(self):
        self.assertEqual(told(service(2, 0, 3, 2), *all_moves(0), plan()), [1, 0, 0, 2, 2])
        begun = [service(1, 0, 2, 0), service(1, 0, 2, 1), move(0, 0, 1), move(0, 1, 0), move(1, 0, 1)]
        self.assertEqual(told(*begun, plan()), [1, 1, 0, 1, 1])


class NoWay(unittest.TestCase):
    def test_for_want_of_a_move(self):
        self.assertEqual(told(service(1, 0, 2, 1), plan()), [-6])
        self.assertEqual(told(service(2, 1, 2, 1), move(0, 1, 0), plan()), [-6])
        self.assertEqual(told(service(1, 0, 3, 2), move(0, 0, 1), move(0, 1, 0), plan()), [-6])
        self.assertEqual(told(service(1, 0, 3, 2), move(0, 1, 2), plan()), [-6])

    def test_for_want_of_a_move_behind_a_step(self):
        begun = [service(1, 0, 3, 2), move(0, 0, 1), move(0, 0, 2)]
        self.assertEqual(answered(*begun, plan(), step(0, 0, 1, 1), plan())[3::2], [[1, 0, 0, 2, 1], [-6]])

    def test_a_move_that_comes_makes_a_way(self):
        self.assertEqual(
            answered(service(1, 0, 2, 1), plan(), move(0, 0, 1), plan())[1::2], [[-6], [1, 0, 0, 1, 1]])

    def test_for_want_of_a_move_of_one_of_the_services(self):
        begun = [service(1, 0, 2, 1), service(1, 0, 2, 1), service(1, 0, 2, 1)]
        for without in range(3):
            with self.subTest(without=without):
                moves = [move(of, 0, 1) for of in range(3) if of != without]
                self.assertEqual(told(*begun, *moves, plan()), [-6])

    def test_two_versions_of_one_service_clash(self):
        for copies in (1, 2):
            with self.subTest(copies=copies):
                self.assertEqual(told(service(copies, 0, 2, 1), move(0, 0, 1), clash(0, 1, 0, 0), plan()), [-6])

    def test_what_is_wanted_clashes(self):
        self.assertEqual(told(*Clashes.TWO, clash(0, 1, 1, 1), plan()), [-6])

    def test_neither_can_be_first(self):
        self.assertEqual(told(*Clashes.TWO, clash(0, 1, 1, 0), clash(0, 0, 1, 1), plan()), [-6])

    def test_a_clash_that_comes_takes_the_way(self):
        self.assertEqual(
            answered(*Clashes.TWO, clash(0, 1, 1, 0), plan(), clash(0, 0, 1, 1), plan())[5::2],
            [[2, 1, 0, 1, 1, 0, 0, 1, 1], [-6]])

    def test_a_service_that_cannot_make_room(self):
        begun = [service(1, 0, 2, 1), service(1, 0, 1, 0), move(0, 0, 1), clash(0, 1, 1, 0)]
        self.assertEqual(told(*begun, plan()), [-6])


if __name__ == "__main__":
    unittest.main()
