"""Steps and ways: which steps may be done, and how many it takes to what's wanted.

Counts are one row for each service, which tells how many copies are of each version. They are tuples all through, so
that a dict can be asked by them, and nobody's counts change under them.
"""


class Step:
    def __init__(self, service, old, new, copies):
        self.service = service
        self.old = old
        self.new = new
        self.copies = copies


def all_of_version(versions, version, copies):
    row = [0] * versions
    row[version] = copies
    return tuple(row)


def wanted_counts(services):
    return tuple([all_of_version(service.versions, service.wanted, service.copies) for service in services])


def is_there(counts, side):
    return counts[side[0]][side[1]] > 0


def counts_behind(counts, step):
    row = list(counts[step.service])
    row[step.old] -= step.copies
    row[step.new] += step.copies
    return counts[:step.service] + (tuple(row),) + counts[step.service + 1:]


def can_be_done(services, counts, step):
    if step.service >= len(services) or step.copies == 0:
        return False
    stepping = services[step.service]
    # A move names versions that are there, so the count is looked up only behind this.
    if (step.old, step.new) not in stepping.moves:
        return False
    return step.copies <= counts[step.service][step.old] and stepping.up + step.copies <= stepping.copies


def has_clash_between(clashes, before, behind):
    for clash in clashes:
        # Old and new copies are side by side during a step: one side may be there before it, the other one behind.
        first = is_there(before, clash[0]) or is_there(behind, clash[0])
        other = is_there(before, clash[1]) or is_there(behind, clash[1])
        if first and other:
            return True
    return False


def may_be_done(services, clashes, counts, step):
    if not can_be_done(services, counts, step):
        return False
    return not has_clash_between(clashes, counts, counts_behind(counts, step))


# In the order in which the plan chooses: by service, version from, version to, copies.
def steps_from(services, clashes, counts):
    found = []
    for service in range(len(services)):
        for move in sorted(services[service].moves):
            for copies in range(1, services[service].copies + 1):
                step = Step(service, move[0], move[1], copies)
                if may_be_done(services, clashes, counts, step):
                    found.append(step)
    return found


# For all counts that can be reached from now: from which counts a step leads there.
def counts_before(services, clashes, now):
    before = {now: []}
    reached = [now]
    place = 0
    while place < len(reached):
        counts = reached[place]
        for step in steps_from(services, clashes, counts):
            behind = counts_behind(counts, step)
            if behind not in before:
                before[behind] = []
                reached.append(behind)
            before[behind].append(counts)
        place += 1
    return before


# For all counts that can be reached from now and from which there's a way: how many steps it takes to what's wanted.
# Gone through backwards from what's wanted, so that one walk tells it of all of them.
def fewest_steps(services, clashes, now):
    before = counts_before(services, clashes, now)
    wanted = wanted_counts(services)
    fewest = {wanted: 0}
    reached = [wanted]
    place = 0
    while place < len(reached):
        counts = reached[place]
        for nearby in before.get(counts, []):
            if nearby not in fewest:
                fewest[nearby] = fewest[counts] + 1
                reached.append(nearby)
        place += 1
    return fewest


# None where there's no way: a plan without steps is one, too.
def planned_steps(services, clashes, now):
    fewest = fewest_steps(services, clashes, now)
    if now not in fewest:
        return None
    planned = []
    counts = now
    while fewest[counts] > 0:
        step = first_step_nearer(services, clashes, counts, fewest)
        planned.append(step)
        counts = counts_behind(counts, step)
    return planned


def first_step_nearer(services, clashes, counts, fewest):
    nearer = fewest[counts] - 1
    steps = steps_from(services, clashes, counts)
    return [step for step in steps if fewest.get(counts_behind(counts, step)) == nearer][0]
