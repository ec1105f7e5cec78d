import unittest

from line import BIG, answered, begins, clash, goal, last, may, move, now, numbers, plan, service, step, told, written
from upgradeways.house import answers

LINE = [
    now(), plan(), may(), goal(0, 0),
    service(2, 1, 3, 2), service(1, 0, 2, 1), service(0, 0, 0, 0), plan(), move(0, 0, 1), move(0, 1, 2), move(1, 0, 1),
    move(0, 0, 0), clash(0, 0, 0, 2), clash(1, 1, 0, 0), clash(0, 0, 1, 0), plan(), step(1, 0, 1, 1),
    step(0, 0, 1, 1), step(0, 0, 1, 2), may(), step(0, 0, 1, 1), now(), goal(0, 1), goal(0, 3), plan(),
    step(1, 0, 1, 1), begins(), now(), move(0, 0, 1), service(1, 0, 1, 0), now(),
]
ANSWERS = [
    [0], [0], [0], [-2],
    [0], [1], [-1], [-6], [1], [2], [1],
    [-4], [1], [2], [-5], [5, 0, 0, 1, 1, 0, 0, 1, 1, 0, 1, 2, 1, 0, 1, 2, 1, 1, 0, 1, 1], [-5],
    [0], [-2], [1, 0, 0, 1, 1, 4], [0], [2, 0, 2, 0, 1, 0], [0], [-2], [1, 1, 0, 1, 1],
    [0], [0], [0], [-2], [0], [1, 1],
]


class Begins(unittest.TestCase):
    def test_at_the_beginning_there_are_no_services(self):
        self.assertEqual(numbers(move(0, 0, 1), clash(0, 0, 0, 1), step(0, 0, 1, 1)), [-2, -2, -2])

    def test_answers_0_wherever_it_stands(self):
        self.assertEqual(numbers(begins()), [0])
        self.assertEqual(numbers(begins(), begins(), service(1, 0, 1, 0), begins()), [0, 0, 0, 0])

    def test_no_services_from_then_on(self):
        begun = [service(1, 0, 2, 0), service(1, 0, 2, 0), service(1, 0, 2, 0), move(0, 0, 1), begins()]
        for call in (move(0, 0, 1), clash(0, 0, 1, 1), step(0, 0, 1, 1)):
            with self.subTest(call=call):
                self.assertEqual(last(*begun, call), -2)
        self.assertEqual(numbers(*begun, *begun[:3], service(1, 0, 1, 0))[5:], [0, 1, 2, -7])

    def test_no_moves_and_no_steps_from_then_on(self):
        begun = [service(1, 0, 2, 0), move(0, 0, 1), step(0, 0, 1, 1), begins(), service(1, 0, 2, 0)]
        self.assertEqual(numbers(*begun, step(0, 0, 1, 1), move(0, 0, 1), step(0, 0, 1, 1))[5:], [-2, 1, 0])

    def test_plan_may_goal_and_now_know_of_nothing_from_then_on(self):
        begun = [service(1, 0, 2, 1), service(2, 0, 2, 1), move(0, 0, 1), move(1, 0, 1), step(1, 0, 1, 1), begins()]
        self.assertEqual(answered(*begun, plan(), may(), goal(0, 0), now())[6:], [[0], [0], [-2], [0]])
        self.assertEqual(told(*begun, service(1, 0, 2, 1), plan()), [-6])

    def test_no_clashes_from_then_on(self):
        told = [service(1, 0, 2, 0), move(0, 0, 1), clash(0, 0, 0, 1)]
        self.assertEqual(
            numbers(*told, begins(), *told[:2], step(0, 0, 1, 1), clash(0, 1, 0, 0))[3:], [0, 0, 1, 0, 1])

    def test_the_twenty_clashes_are_counted_anew(self):
        services = [service(1, 0, 3, 0)] * 3
        told = [clash(0, version, other, there) for version in (1, 2) for other in (1, 2) for there in (0, 1, 2)]
        told += [clash(1, version, 2, there) for version in (1, 2) for there in (0, 1, 2)]
        told += [clash(0, 0, 0, 1), clash(0, 0, 0, 2)]
        self.assertEqual(
            numbers(*services, *told, clash(1, 0, 1, 1), begins(), *services, *told, clash(1, 0, 1, 1)),
            [0, 1, 2, *range(1, 21), -7, 0, 0, 1, 2, *range(1, 21), -7])


class Form(unittest.TestCase):
    def test_how_many_numbers_then_these(self):
        self.assertEqual(answers([0]), [1, 0])
        self.assertEqual(answers([1, 2, 0, 3, 2]), [1, 0])
        self.assertEqual(answers([1, 2, 0, 3, 2, 1, 1, 0, 2, 0, 2, 1, 0, 1]), [1, 0, 1, 1, 1, 1])
        self.assertEqual(answers([1, 2, 0, 3, 2, 2, 0, 0, 1, 3, 0, 0, 0, 2]), [1, 0, 1, 1, 1, 1])
        self.assertEqual(answers([1, 2, 0, 3, 2, 2, 0, 0, 1, 4, 0, 0, 1, 2, 0]), [1, 0, 1, 1, 1, 0, 1, 0])

    def test_how_many_numbers_then_these_of_plan_may_goal_and_now(self):
        self.assertEqual(answers([5, 6, 8]), [1, 0, 1, 0, 1, 0])
        begun = [1, 2, 0, 2, 1, 2, 0, 0, 1]
        self.assertEqual(answers(begun + [5]), [1, 0, 1, 1, 5, 1, 0, 0, 1, 2])
        self.assertEqual(answers(begun + [6]), [1, 0, 1, 1, 11, 2, 0, 0, 1, 1, 2, 0, 0, 1, 2, 1])
        self.assertEqual(answers(begun + [7, 0, 0, 5]), [1, 0, 1, 1, 1, 0, 1, 0])
        self.assertEqual(answers(begun + [8]), [1, 0, 1, 1, 3, 1, 2, 0])

    def test_a_refusal_is_its_number_alone(self):
        self.assertEqual(
            answers([1, 0, 0, 0, 0, 2, 0, 0, 1, 3, 0, 0, 0, 1, 4, 0, 0, 1, 1]), [1, -1, 1, -2, 1, -2, 1, -2])
        self.assertEqual(answers([7, 0, 0, 1, 1, 0, 2, 1, 5]), [1, -2, 1, 0, 1, -6])

    def test_each_call_of_a_line(self):
        self.assertEqual(sorted({call[0] for call in LINE}), list(range(9)))
        self.assertEqual(answered(*LINE), ANSWERS)
        self.assertEqual(answers(written(LINE)), written([len(answer)] + answer for answer in ANSWERS))

    def test_a_list_of_whole_numbers(self):
        given = answers(written(LINE))
        self.assertIs(type(given), list)
        self.assertEqual({type(number) for number in given}, {int})

    def test_the_largest_numbers_everywhere(self):
        begun = [service(1, 0, 2, 0), move(0, 0, 1)]
        for call in (service, move, clash, step):
            for place in range(3 if call == move else 4):
                given = [0, 0, 1] if call == move else [0, 0, 1, 1]
                given[place] = BIG
                with self.subTest(call=call.__name__, place=place):
                    self.assertEqual(last(*begun, call(*given)), -1 if call == service else -2)
        for given in ((BIG, 0), (0, BIG), (BIG, BIG)):
            with self.subTest(call="goal", given=given):
                self.assertEqual(last(*begun, goal(*given)), -2)

    def test_sixty_calls_of_three_hundred_numbers(self):
        begun = [service(1, 0, 3, 0), service(1, 0, 3, 0), service(1, 0, 3, 0)]
        handed = written(begun + [clash(0, 1, 0, 2)] + [clash(0, 2, 0, 1)] * 56)
        self.assertEqual(len(handed), 300)
        self.assertEqual(answers(handed), [1, 0, 1, 1, 1, 2, 1, 1] + [1, -4] * 56)


class NothingKept(unittest.TestCase):
    def test_the_list_handed_in_stays_as_it_was(self):
        handed = written(LINE)
        kept = list(handed)
        answers(handed)
        self.assertEqual(handed, kept)

    def test_a_second_run_answers_the_same(self):
        handed = written(LINE)
        first = answers(handed)
        self.assertEqual(answers(handed), first)

    def test_what_was_given_back_is_not_changed_by_a_second_run(self):
        handed = written(LINE)
        first = answers(handed)
        kept = list(first)
        second = answers(handed)
        second.clear()
        self.assertEqual(first, kept)
        self.assertEqual(answers(handed), kept)

    def test_each_list_is_about_a_new_house(self):
        numbers(service(1, 0, 2, 0), move(0, 0, 1), clash(0, 0, 0, 1))
        self.assertEqual(numbers(move(0, 0, 1)), [-2])
        self.assertEqual(
            numbers(service(1, 0, 2, 0), step(0, 0, 1, 1), move(0, 0, 1), step(0, 0, 1, 1), clash(0, 0, 0, 1)),
            [0, -2, 1, 0, 1])


if __name__ == "__main__":
    unittest.main()
