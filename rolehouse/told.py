"""The told model of a concept: a thing for each kind that its steps lead to."""

from rolehouse.roles import FORWARD_ROLE_COUNT, turned


# By a role turned round one comes the other way by the role itself, so each way is told by role 0 or 1.
def ways_of_step(source, target, uppers):
    ways = []
    for upper in uppers:
        if upper < FORWARD_ROLE_COUNT:
            ways.append((source, upper, target))
        else:
            ways.append((target, turned(upper), source))
    return ways


def told_things(kinds, first):
    things = [first]
    place = 0
    while place < len(things):
        kind = things[place]
        for role, other in kinds.steps(kind):
            if other not in things:
                things.append(other)
        place += 1
    return things


# Several steps may give the same way: it's told once.
def told_ways(kinds, things):
    ways = []
    for source, kind in enumerate(things):
        for role, other in kinds.steps(kind):
            ways.extend(ways_of_step(source, things.index(other), kinds.over[role]))
    return sorted(set(ways))


def told_model(kinds, first):
    things = told_things(kinds, first)
    ways = told_ways(kinds, things)
    numbers = [len(things)]
    for place, kind in enumerate(things):
        own = [way for way in ways if way[0] == place]
        numbers.append(kinds.names_sum(kind))
        numbers.append(len(own))
        for source, role, target in own:
            numbers.append(role)
            numbers.append(target)
    return numbers
