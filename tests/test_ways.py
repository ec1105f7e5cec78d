import random
import time
import unittest

from line import all_moves, answered, clash, goal, may, move, now, numbers, plan, service, step, told, written
from upgradeways.house import answers


class Drawn:
    """A house, kept apart from the program's: each copy has its version, and ways are sought forwards."""

    def __init__(self, services, moves, clashes):
        self.services = services
        self.moves = moves
        self.clashes = clashes

    def calls(self):
        moves = [move(*given) for given in self.moves]
        return [service(*given) for given in self.services] + moves + [clash(*given) for given in self.clashes]

    def first(self):
        return tuple((0,) * given[0] for given in self.services)

    def wanted(self):
        return tuple((given[3],) * given[0] for given in self.services)

    def steps(self, copies):
        """The steps that may be done and where each leads, in the order in which the plan chooses."""
        found = []
        for of, old, new in sorted(self.moves):
            for taken in range(1, copies[of].count(old) + 1):
                stay = [version for version in copies[of] if version != old]
                left = [old] * (copies[of].count(old) - taken)
                behind = copies[:of] + (tuple(sorted(stay + left + [new] * taken)),) + copies[of + 1:]
                if self.services[of][1] + taken <= self.services[of][0] and self.fits(copies, behind):
                    found.append(((of, old, new, taken), behind))
        return found

    def fits(self, before, behind):
        there = {(of, version) for copies in (before, behind) for of, row in enumerate(copies) for version in row}
        return not any((a, b) in there and (c, d) in there for a, b, c, d in self.clashes)

    def first_way(self, start):
        """The first of those with the fewest steps, or None: of all ways, by their length, the lower ones first."""
        ways = [((), start)]
        seen = {start}
        while ways:
            for way, copies in ways:
                if copies == self.wanted():
                    return list(way)
            farther = []
            for way, copies in ways:
                for taken, behind in self.steps(copies):
                    if behind not in seen:
                        seen.add(behind)
                        farther.append((way + (taken,), behind))
            ways = farther
        return None

    def plan_answer(self, copies):
        way = self.first_way(copies)
        return [-6] if way is None else [len(way)] + written(way)

    def may_answer(self, copies):
        steps = self.steps(copies)
        answer = [len(steps)]
        for taken, behind in steps:
            way = self.first_way(behind)
            answer += [*taken, 0 if way is None else len(way) + 1]
        return answer

    def now_answer(self, copies):
        rows = [[row.count(version) for version in range(given[2])] for given, row in zip(self.services, copies)]
        return [len(rows)] + written(rows)


def drawn_house(draw):
    services = []
    for place in range(draw.choice((1, 2, 2, 3, 3, 3))):
        copies = draw.choice((1, 2, 2))
        versions = draw.choice((1, 2, 3, 3, 3))
        services.append((copies, draw.randrange(copies), versions, draw.randrange(versions)))
    sides = [(of, version) for of, given in enumerate(services) for version in range(given[2])]
    moves = [(of, old, new) for of, old in sides for there, new in sides if of == there and old != new]
    draw.shuffle(moves)
    pairs = [one + other for place, one in enumerate(sides) for other in sides[:place]]
    free = [pair for pair in pairs if pair[1] + pair[3] > 0]
    draw.shuffle(free)
    return Drawn(services, moves[:draw.randrange(len(moves) // 2, len(moves) + 1)], free[:draw.choice((0, 2, 4, 6, 9))])


def walked(house, draw):
    """Some steps from the beginning, and where they lead."""
    taken = []
    copies = house.first()
    for place in range(draw.randrange(5)):
        steps = house.steps(copies)
        if steps:
            chosen, copies = draw.choice(steps)
            taken.append(step(*chosen))
    return taken, copies


def drawn_houses():
    # A fixed beginning, so that each run asks the same houses.
    draw = random.Random(20)
    houses = []
    for place in range(700):
        house = drawn_house(draw)
        houses.append((house, *walked(house, draw)))
    return houses


class AgainstAllWays(unittest.TestCase):
    def test_plan_may_and_now(self):
        kinds = set()
        for house, taken, copies in drawn_houses():
            calls = house.calls() + taken
            with self.subTest(calls=calls):
                given = answered(*calls, plan(), may(), now())[-3:]
                self.assertEqual(
                    given, [house.plan_answer(copies), house.may_answer(copies), house.now_answer(copies)])
                kinds.add(min(given[0][0], 6))
                kinds.add("no way on" if 0 in given[1][5::5] else "a way on")
        self.assertEqual(kinds, {-6, 0, 1, 2, 3, 4, 5, 6, "no way on", "a way on"})

    def test_behind_another_goal(self):
        for house, taken, copies in drawn_houses()[:100]:
            last = len(house.services) - 1
            given = house.services[last]
            for wanted in range(given[2]):
                other = Drawn(house.services[:last] + [given[:3] + (wanted,)], house.moves, house.clashes)
                calls = house.calls() + taken + [goal(last, wanted)]
                with self.subTest(calls=calls):
                    self.assertEqual(
                        answered(*calls, plan(), may())[-3:],
                        [[0], other.plan_answer(copies), other.may_answer(copies)])


class PlanAndMayChangeNothing(unittest.TestCase):
    def test_they_answer_the_same_again(self):
        for house, taken, copies in drawn_houses()[:100]:
            calls = house.calls() + taken
            with self.subTest(calls=calls):
                given = answered(*calls, now(), plan(), may(), now(), may(), plan(), now(), plan(), may())[len(calls):]
                self.assertEqual([given[0]] * 2, [given[3], given[6]])
                self.assertEqual([given[1]] * 2, [given[5], given[7]])
                self.assertEqual([given[2]] * 2, [given[4], given[8]])

    def test_other_calls_answer_as_without_them(self):
        for house, taken, copies in drawn_houses()[:100]:
            calls = house.calls()
            between = calls + [plan(), may()] + taken
            with self.subTest(calls=calls):
                given = answered(*between, plan(), may(), now())
                self.assertEqual(
                    given[:len(calls)] + given[len(calls) + 2:], answered(*calls, *taken, plan(), may(), now()))


class DoingThePlan(unittest.TestCase):
    def test_no_step_is_refused_and_the_plan_gets_shorter(self):
        longest = 0
        for house, taken, copies in drawn_houses():
            calls = house.calls() + taken
            planned = told(*calls, plan())
            longest = max(longest, planned[0])
            with self.subTest(calls=calls):
                while planned[0] > 0:
                    calls = calls + [step(*planned[1:5])]
                    given = answered(*calls, plan())[-2:]
                    self.assertEqual(given, [[0], [planned[0] - 1] + planned[5:]])
                    planned = given[1]
        self.assertGreaterEqual(longest, 6)

    def test_all_in_one_list(self):
        begun = [
            service(2, 1, 3, 1), service(1, 0, 2, 1), *all_moves(0), move(1, 0, 1),
            clash(0, 0, 0, 1), clash(1, 1, 0, 0),
        ]
        way = [(0, 0, 2, 1), (0, 0, 2, 1), (0, 2, 1, 1), (0, 2, 1, 1), (1, 0, 1, 1)]
        expected = [[5] + written(way)]
        calls = [plan()]
        for place, taken in enumerate(way):
            calls += [step(*taken), plan()]
            expected += [[0], [4 - place] + written(way[place + 1:])]
        self.assertEqual(answered(*begun, *calls)[len(begun):], expected)

    def test_each_step_that_may_be_done_is_done(self):
        for house, taken, copies in drawn_houses()[:100]:
            calls = house.calls() + taken
            given = told(*calls, may())
            for place in range(1, len(given), 5):
                with self.subTest(calls=calls, step=given[place:place + 4]):
                    planned = answered(*calls, step(*given[place:place + 4]), plan())[-2:]
                    fewest = given[place + 4]
                    self.assertEqual([planned[0], planned[1][0]], [[0], fewest - 1 if fewest > 0 else -6])


class Largest(unittest.TestCase):
    SERVICES = [(2, 0, 3, 2)] * 3
    MOVES = [tuple(call[1:]) for of in range(3) for call in all_moves(of)]
    ASKED = [plan(), may(), plan(), may(), plan(), may()]

    def check(self, house, others):
        calls = house.calls() + others + self.ASKED
        self.assertEqual(len(calls), 60)
        handed = written(calls)
        self.assertLessEqual(len(handed), 300)
        began = time.perf_counter()
        answers(handed)
        self.assertLess(time.perf_counter() - began, 5)
        given = answered(*calls)
        expected = [house.plan_answer(house.first()), house.may_answer(house.first())]
        self.assertEqual(given[-6:], expected * 3)
        return given[-6]

    def test_without_clashes(self):
        house = Drawn(self.SERVICES, self.MOVES, [])
        self.assertEqual(
            self.check(house, [now()] * 33), [3, 0, 0, 2, 2, 1, 0, 2, 2, 2, 0, 2, 2])

    def test_with_clashes(self):
        # Within each service from 0 to 2 by way of 1, the services one behind another.
        told_first = [(of, 0, of, 2) for of in range(3)] + [(0, 1, 1, 0), (1, 1, 2, 0)]
        house = Drawn(self.SERVICES, self.MOVES, told_first)
        given = self.check(house, [now()] * 28)
        self.assertEqual(given[:9], [6, 2, 0, 1, 2, 1, 0, 1, 2])

    def test_with_twenty_clashes(self):
        # Whatever isn't on this way clashes with something: the last service goes first, then the one before it.
        copies = [(0, 0, 0), (0, 0, 2), (0, 2, 2), (2, 2, 2)]
        on_the_way = {((of, row[of]), (to, row[to])) for row in copies for of in range(3) for to in range(3)}
        sides = [(of, version) for of in range(3) for version in range(3)]
        pairs = [(one, other) for place, one in enumerate(sides) for other in sides[place + 1:]]
        off = [one + other for one, other in pairs if (one, other) not in on_the_way and one[0] != other[0]]
        within = [(of, 0, of, 1) for of in range(3)] + [(of, 1, of, 2) for of in range(3)]
        house = Drawn(self.SERVICES, self.MOVES, (off + within)[:20])
        self.assertEqual(len(house.clashes), 20)
        self.assertEqual(numbers(*house.calls())[-1], 20)
        self.assertEqual(
            self.check(house, [now()] * 13), [3, 2, 0, 2, 2, 1, 0, 2, 2, 0, 0, 2, 2])

    def test_with_no_way(self):
        house = Drawn(self.SERVICES, self.MOVES, [(0, 2, 1, 2)])
        self.assertEqual(self.check(house, [now()] * 32), [-6])


if __name__ == "__main__":
    unittest.main()
