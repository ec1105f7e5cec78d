"""The house: its services, their moves and clashes, and the calls on it."""

from upgradeways.ways import Step, all_of_version, can_be_done, counts_behind, fewest_steps, is_there, may_be_done
from upgradeways.ways import planned_steps, steps_from

BEGINS = 0
SERVICE = 1
MOVE = 2
CLASH = 3
STEP = 4
PLAN = 5
MAY = 6
GOAL = 7

# By a call's number: how many whole numbers stand behind it.
NUMBERS_BEHIND = {0: 0, 1: 4, 2: 3, 3: 4, 4: 4, 5: 0, 6: 0, 7: 2, 8: 0}

MOST_SERVICES = 3
MOST_COPIES = 2
MOST_VERSIONS = 3
MOST_CLASHES = 20

DONE = 0
NO_WAY_ON = 0

OUT_OF_RANGE = -1
NO_SUCH = -2
CANNOT_BE_DONE = -2
NOT_NEW = -4
BOTH_THERE = -5
MAY_NOT_BE_DONE = -5
NO_WAY = -6
FULL = -7


# Holds what no step changes; how many copies are of which version is the house's to keep.
class Service:
    def __init__(self, copies, up, versions, wanted):
        self.copies = copies
        self.up = up
        self.versions = versions
        self.wanted = wanted
        self.moves = []


class House:
    def __init__(self):
        self.begin()

    def begin(self):
        self.services = []
        self.clashes = []
        # Apart from the services, so that a step is judged by what is there on both sides.
        self.counts = ()
        return DONE

    def add_service(self, copies, up, versions, wanted):
        if not are_in_range(copies, up, versions, wanted):
            return OUT_OF_RANGE
        if len(self.services) == MOST_SERVICES:
            return FULL
        self.services.append(Service(copies, up, versions, wanted))
        self.counts = self.counts + (all_of_version(versions, 0, copies),)
        return len(self.services) - 1

    def has_version(self, service, version):
        return service < len(self.services) and version < self.services[service].versions

    def add_move(self, service, old, new):
        if not self.has_version(service, old) or not self.has_version(service, new):
            return NO_SUCH
        moves = self.services[service].moves
        if old == new or (old, new) in moves:
            return NOT_NEW
        moves.append((old, new))
        return len(moves)

    def add_clash(self, first, version, other, otherversion):
        if not self.has_version(first, version) or not self.has_version(other, otherversion):
            return NO_SUCH
        one = (first, version)
        another = (other, otherversion)
        if one == another or self.has_clash(one, another):
            return NOT_NEW
        if is_there(self.counts, one) and is_there(self.counts, another):
            return BOTH_THERE
        if len(self.clashes) == MOST_CLASHES:
            return FULL
        self.clashes.append((one, another))
        return len(self.clashes)

    def has_clash(self, one, another):
        return (one, another) in self.clashes or (another, one) in self.clashes

    def take_step(self, service, old, new, copies):
        step = Step(service, old, new, copies)
        if not can_be_done(self.services, self.counts, step):
            return CANNOT_BE_DONE
        if not may_be_done(self.services, self.clashes, self.counts, step):
            return MAY_NOT_BE_DONE
        self.counts = counts_behind(self.counts, step)
        return DONE

    def tell_plan(self):
        steps = planned_steps(self.services, self.clashes, self.counts)
        if steps is None:
            return [NO_WAY]
        told = [len(steps)]
        for step in steps:
            told.extend(step_numbers(step))
        return told

    def tell_may(self):
        steps = steps_from(self.services, self.clashes, self.counts)
        fewest = fewest_steps(self.services, self.clashes, self.counts)
        told = [len(steps)]
        for step in steps:
            behind = counts_behind(self.counts, step)
            told.extend(step_numbers(step))
            told.append(fewest[behind] + 1 if behind in fewest else NO_WAY_ON)
        return told

    def set_goal(self, service, wanted):
        if not self.has_version(service, wanted):
            return NO_SUCH
        self.services[service].wanted = wanted
        return DONE

    def tell_now(self):
        told = [len(self.services)]
        for row in self.counts:
            told.extend(row)
        return told


def are_in_range(copies, up, versions, wanted):
    copies_fit = 1 <= copies and copies <= MOST_COPIES and up < copies
    versions_fit = 1 <= versions and versions <= MOST_VERSIONS and wanted < versions
    return copies_fit and versions_fit


def step_numbers(step):
    return [step.service, step.old, step.new, step.copies]


def answer(house, call, given):
    if call == BEGINS:
        return [house.begin()]
    if call == SERVICE:
        return [house.add_service(given[0], given[1], given[2], given[3])]
    if call == MOVE:
        return [house.add_move(given[0], given[1], given[2])]
    if call == CLASH:
        return [house.add_clash(given[0], given[1], given[2], given[3])]
    if call == STEP:
        return [house.take_step(given[0], given[1], given[2], given[3])]
    if call == PLAN:
        return house.tell_plan()
    if call == MAY:
        return house.tell_may()
    if call == GOAL:
        return [house.set_goal(given[0], given[1])]
    return house.tell_now()


def answers(calls):
    house = House()
    told = []
    place = 0
    while place < len(calls):
        call = calls[place]
        end = place + 1 + NUMBERS_BEHIND[call]
        numbers = answer(house, call, calls[place + 1:end])
        told.append(len(numbers))
        told.extend(numbers)
        place = end
    return told
