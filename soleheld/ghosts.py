"""Ghosts: the ballots for which the taken sizes of bundles stand."""


def ghosts(house):
    """The list of the rolls of ghosts of all bundles, by the present blocks."""
    markings = house.contest.markings()
    least = [markings[block[0][0]] for block in house.blocks()]
    return [ghost_roll(least, house.taken(bundle)) for bundle in range(len(house.staff))]


def ghost_roll(least, sizes):
    """The roll that has each of these markings as many times as a size says."""
    return [marking for marking, size in zip(least, sizes) for _ in range(size)]


def mixed_roll(house, hands, group):
    """The sealed ballots of each bundle that a group does not hold alone, and the ghosts of the others."""
    sole = house.staff.sole(group)
    found = []
    for bundle, roll in enumerate(ghosts(house)):
        found.extend(roll if bundle in sole else [marking for _, _, _, marking in hands[bundle]])
    return found


def has_sizes(course, roll, sizes):
    """Whether a roll has these sizes in the blocks of a course."""
    return course.sizes_of(roll) == list(sizes)
