import unittest

from line import all_moves, answered, begins, clash, goal, may, move, plan, service, step, told


class NoStep(unittest.TestCase):
    def test_no_services(self):
        self.assertEqual(told(may()), [0])
        self.assertEqual(told(service(1, 0, 2, 1), move(0, 0, 1), begins(), may()), [0])

    def test_no_moves(self):
        self.assertEqual(told(service(2, 0, 3, 2), service(1, 0, 1, 0), may()), [0])

    def test_no_copies_where_the_moves_are(self):
        self.assertEqual(told(service(2, 0, 3, 2), move(0, 1, 2), move(0, 2, 0), may()), [0])

    def test_none_because_of_clashes(self):
        begun = [service(2, 0, 2, 1), service(1, 0, 2, 1), move(0, 0, 1), move(1, 0, 1)]
        self.assertEqual(told(*begun, clash(0, 1, 1, 0), clash(1, 1, 0, 0), may()), [0])
        self.assertEqual(told(*begun, clash(0, 0, 0, 1), clash(1, 1, 1, 0), may()), [0])


class Order(unittest.TestCase):
    def test_version_to_then_copies(self):
        self.assertEqual(
            told(service(2, 0, 3, 2), *all_moves(0), may()),
            [4, 0, 0, 1, 1, 3, 0, 0, 1, 2, 2, 0, 0, 2, 1, 2, 0, 0, 2, 2, 1])

    def test_version_from_then_version_to(self):
        self.assertEqual(
            told(service(2, 0, 3, 2), *all_moves(0), step(0, 0, 1, 1), may()),
            [4, 0, 0, 1, 1, 2, 0, 0, 2, 1, 2, 0, 1, 0, 1, 2, 0, 1, 2, 1, 2])

    def test_services(self):
        services = [service(1, 0, 2, 1), service(2, 0, 2, 1), service(2, 1, 3, 2)]
        moves = [move(2, 0, 2), move(2, 0, 1), move(1, 0, 1), move(0, 0, 1)]
        self.assertEqual(
            told(*services, *moves, may()),
            [5, 0, 0, 1, 1, 4, 1, 0, 1, 1, 5, 1, 0, 1, 2, 4, 2, 0, 1, 1, 0, 2, 0, 2, 1, 4])

    def test_the_lower_service_is_told_before_the_lower_version(self):
        begun = [service(1, 0, 3, 2), service(1, 0, 2, 1), *all_moves(0), move(1, 0, 1), step(0, 0, 1, 1)]
        self.assertEqual(told(*begun, may()), [3, 0, 1, 0, 1, 3, 0, 1, 2, 1, 2, 1, 0, 1, 1, 2])

    def test_the_order_in_which_moves_are_told_does_not_matter(self):
        moves = all_moves(0)
        self.assertEqual(
            told(service(2, 0, 3, 2), *moves, may()), told(service(2, 0, 3, 2), *reversed(moves), may()))


class Copies(unittest.TestCase):
    def test_copies_that_have_to_be_up(self):
        self.assertEqual(told(service(2, 1, 2, 1), move(0, 0, 1), may()), [1, 0, 0, 1, 1, 2])
        self.assertEqual(told(service(2, 0, 2, 1), move(0, 0, 1), may()), [2, 0, 0, 1, 1, 2, 0, 0, 1, 2, 1])

    def test_no_more_copies_than_are_of_that_version(self):
        begun = [service(2, 0, 2, 1), move(0, 0, 1), move(0, 1, 0), step(0, 0, 1, 1)]
        self.assertEqual(told(*begun, may()), [2, 0, 0, 1, 1, 1, 0, 1, 0, 1, 2])


class HowManySteps(unittest.TestCase):
    def test_1_where_it_reaches_what_is_wanted(self):
        self.assertEqual(told(service(1, 0, 2, 1), move(0, 0, 1), may()), [1, 0, 0, 1, 1, 1])

    def test_more_where_it_leads_away_first(self):
        begun = [service(1, 0, 3, 2), move(0, 0, 2), move(0, 0, 1), move(0, 1, 0)]
        self.assertEqual(told(*begun, may()), [2, 0, 0, 1, 1, 3, 0, 0, 2, 1, 1])

    def test_0_where_there_is_no_way_on_for_want_of_a_move(self):
        begun = [service(1, 0, 3, 2), move(0, 0, 1), move(0, 0, 2)]
        self.assertEqual(told(*begun, may()), [2, 0, 0, 1, 1, 0, 0, 0, 2, 1, 1])

    def test_0_where_there_is_no_way_on_because_of_clashes(self):
        begun = [
            service(1, 0, 3, 2), service(1, 0, 2, 1), move(0, 0, 1), move(0, 0, 2), move(0, 1, 2), move(1, 0, 1),
            clash(0, 2, 1, 0), clash(0, 1, 1, 1),
        ]
        # With the first service at version 1, neither it nor the other one gets any farther.
        self.assertEqual(told(*begun, may()), [2, 0, 0, 1, 1, 0, 1, 0, 1, 1, 2])

    def test_0_of_all_where_there_is_no_way_at_all(self):
        begun = [service(2, 0, 3, 2), move(0, 0, 1), move(0, 1, 0)]
        self.assertEqual(answered(*begun, may(), plan())[3:], [[2, 0, 0, 1, 1, 0, 0, 0, 1, 2, 0], [-6]])

    def test_from_what_is_wanted_to_elsewhere_and_back(self):
        begun = [service(1, 0, 2, 0), move(0, 0, 1), move(0, 1, 0)]
        self.assertEqual(told(*begun, may()), [1, 0, 0, 1, 1, 2])
        self.assertEqual(
            told(service(2, 1, 3, 0), move(0, 0, 1), move(0, 1, 2), move(0, 2, 0), may()), [1, 0, 0, 1, 1, 3])

    def test_from_what_is_wanted_to_elsewhere_and_not_back(self):
        self.assertEqual(told(service(1, 0, 2, 0), move(0, 0, 1), may()), [1, 0, 0, 1, 1, 0])

    def test_steps_of_the_other_services_count(self):
        begun = [service(1, 0, 2, 1), service(2, 1, 2, 1), move(0, 0, 1), move(1, 0, 1)]
        self.assertEqual(told(*begun, may()), [2, 0, 0, 1, 1, 3, 1, 0, 1, 1, 3])

    def test_it_is_from_now_on(self):
        begun = [service(1, 0, 3, 2), move(0, 0, 1), move(0, 1, 2), move(0, 2, 1)]
        self.assertEqual(
            answered(*begun, may(), step(0, 0, 1, 1), may(), step(0, 1, 2, 1), may(), goal(0, 1), may())[4::2],
            [[1, 0, 0, 1, 1, 2], [1, 0, 1, 2, 1, 1], [1, 0, 2, 1, 1, 2], [1, 0, 2, 1, 1, 1]])


class MayAndStep(unittest.TestCase):
    def test_what_may_not_be_done_is_not_told(self):
        begun = [service(1, 0, 3, 1), service(1, 0, 2, 1), *all_moves(0), move(1, 0, 1), clash(0, 1, 1, 0)]
        self.assertEqual(told(*begun, step(0, 0, 1, 1)), [-5])
        self.assertEqual(told(*begun, may()), [2, 0, 0, 2, 1, 3, 1, 0, 1, 1, 2])

    def test_a_clash_of_what_is_there_only_before_and_only_behind(self):
        begun = [service(2, 0, 3, 1), *all_moves(0), clash(0, 0, 0, 1)]
        self.assertEqual(told(*begun, may()), [2, 0, 0, 2, 1, 3, 0, 0, 2, 2, 2])


if __name__ == "__main__":
    unittest.main()
