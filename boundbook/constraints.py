"""Systems of constraints `(first, second, distance)` between positions (point 14)."""


def raised(positions, constraints):
    """Return the positions after each constraint has raised its second one, where needed."""
    higher = list(positions)
    for first, second, distance in constraints:
        if higher[second] < higher[first] + distance:
            higher[second] = higher[first] + distance
    return higher


def least_positions(count, constraints):
    """Return the list of the least solution, or None if there is no solution."""
    positions = [0] * count
    # A raise comes from a chain of constraints. One that passes no position twice has fewer
    # members than there are positions; one that still raises after that goes in a circle.
    for _ in range(count):
        higher = raised(positions, constraints)
        if higher == positions:
            return positions
        if higher[0] > 0:
            return None
        positions = higher
    return None


def contradiction(count, constraints):
    """Return the ascending numbers of the constraints of the contradiction, or None."""
    if least_positions(count, constraints) is not None:
        return None
    left = list(range(len(constraints)))
    for number in range(len(constraints)):
        others = [other for other in left if other != number]
        if least_positions(count, [constraints[other] for other in others]) is None:
            left = others
    return left
