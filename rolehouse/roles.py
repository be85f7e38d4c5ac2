"""Roles: how they are turned round, and which stand under which."""

ROLE_COUNT = 4
# From this number on a role is one of those below it turned round.
FORWARD_ROLE_COUNT = 2


def turned(role):
    return (role + FORWARD_ROLE_COUNT) % ROLE_COUNT


def roles_over(role, pairs):
    found = [role]
    place = 0
    while place < len(found):
        for lower, upper in pairs:
            if lower == found[place] and upper not in found:
                found.append(upper)
        place += 1
    return sorted(found)


# For each role the roles that it is under, itself too.
def all_roles_over(told):
    pairs = list(told)
    for lower, upper in told:
        pairs.append((turned(lower), turned(upper)))
    return [roles_over(role, pairs) for role in range(ROLE_COUNT)]
