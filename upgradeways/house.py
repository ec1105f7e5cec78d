"""The house: its services, their moves and clashes, and the calls on it."""

BEGINS = 0
SERVICE = 1
MOVE = 2
CLASH = 3
STEP = 4

# By a call's number: how many whole numbers stand behind it.
NUMBERS_BEHIND = {0: 0, 1: 4, 2: 3, 3: 4, 4: 4}

MOST_SERVICES = 3
MOST_COPIES = 2
MOST_VERSIONS = 3
MOST_CLASHES = 20

DONE = 0

OUT_OF_RANGE = -1
NO_SUCH = -2
CANNOT_BE_DONE = -2
NOT_NEW = -4
BOTH_THERE = -5
MAY_NOT_BE_DONE = -5
FULL = -7


# Holds what no step changes; how many copies are of which version is the house's to keep.
class Service:
    def __init__(self, copies, up, versions, wanted):
        self.copies = copies
        self.up = up
        self.versions = versions
        self.wanted = wanted
        self.moves = []


class House:
    def __init__(self):
        self.begin()

    def begin(self):
        self.services = []
        self.clashes = []
        # One row for each service, apart from the services, so that a step is judged by what is there on both sides.
        self.counts = []
        return DONE

    def add_service(self, copies, up, versions, wanted):
        if not are_in_range(copies, up, versions, wanted):
            return OUT_OF_RANGE
        if len(self.services) == MOST_SERVICES:
            return FULL
        self.services.append(Service(copies, up, versions, wanted))
        self.counts.append([copies] + [0] * (versions - 1))
        return len(self.services) - 1

    def has_version(self, service, version):
        return service < len(self.services) and version < self.services[service].versions

    def add_move(self, service, old, new):
        if not self.has_version(service, old) or not self.has_version(service, new):
            return NO_SUCH
        moves = self.services[service].moves
        if old == new or (old, new) in moves:
            return NOT_NEW
        moves.append((old, new))
        return len(moves)

    def add_clash(self, first, version, other, otherversion):
        if not self.has_version(first, version) or not self.has_version(other, otherversion):
            return NO_SUCH
        one = (first, version)
        another = (other, otherversion)
        if one == another or self.has_clash(one, another):
            return NOT_NEW
        if is_there(self.counts, one) and is_there(self.counts, another):
            return BOTH_THERE
        if len(self.clashes) == MOST_CLASHES:
            return FULL
        self.clashes.append((one, another))
        return len(self.clashes)

    def has_clash(self, one, another):
        return (one, another) in self.clashes or (another, one) in self.clashes

    def take_step(self, service, old, new, copies):
        if not self.can_be_done(service, old, new, copies):
            return CANNOT_BE_DONE
        behind = counts_behind(self.counts, service, old, new, copies)
        if self.has_clash_between(self.counts, behind):
            return MAY_NOT_BE_DONE
        self.counts = behind
        return DONE

    def can_be_done(self, service, old, new, copies):
        if service >= len(self.services) or copies == 0:
            return False
        stepping = self.services[service]
        # A move names versions that are there, so the count is looked up only behind this.
        if (old, new) not in stepping.moves:
            return False
        return copies <= self.counts[service][old] and stepping.up + copies <= stepping.copies

    def has_clash_between(self, before, behind):
        for clash in self.clashes:
            # Old and new copies are side by side during a step: one side may be there before it, the other one behind.
            first = is_there(before, clash[0]) or is_there(behind, clash[0])
            other = is_there(before, clash[1]) or is_there(behind, clash[1])
            if first and other:
                return True
        return False


def are_in_range(copies, up, versions, wanted):
    copies_fit = 1 <= copies and copies <= MOST_COPIES and up < copies
    versions_fit = 1 <= versions and versions <= MOST_VERSIONS and wanted < versions
    return copies_fit and versions_fit


def is_there(counts, side):
    return counts[side[0]][side[1]] > 0


def counts_behind(counts, service, old, new, copies):
    behind = [list(row) for row in counts]
    behind[service][old] -= copies
    behind[service][new] += copies
    return behind


def answer(house, call, given):
    if call == BEGINS:
        return [house.begin()]
    if call == SERVICE:
        return [house.add_service(given[0], given[1], given[2], given[3])]
    if call == MOVE:
        return [house.add_move(given[0], given[1], given[2])]
    if call == CLASH:
        return [house.add_clash(given[0], given[1], given[2], given[3])]
    return [house.take_step(given[0], given[1], given[2], given[3])]


def answers(calls):
    house = House()
    told = []
    place = 0
    while place < len(calls):
        call = calls[place]
        end = place + 1 + NUMBERS_BEHIND[call]
        numbers = answer(house, call, calls[place + 1:end])
        told.append(len(numbers))
        told.extend(numbers)
        place = end
    return told
