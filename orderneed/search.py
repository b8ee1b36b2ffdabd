"""The shapes of pairs, and the states to which a program can come (points 16 and 18)."""


def shape(pair):
    """Return a pair of configurations with each number replaced by its rank among all numbers of the pair."""
    first, second = pair
    numbers = sorted(set([*first[1], *second[1]]))
    return _ranked(first, numbers), _ranked(second, numbers)


def states_reached(program):
    """Return the list of the indexes of the states to which a program can come, in order."""
    reached = [0]
    followed = 0
    while followed < len(reached):
        for by_position in program.rules[reached[followed]]:
            for target, _, _ in by_position:
                if target not in reached:
                    reached.append(target)
        followed += 1
    return reached


def _ranked(configuration, numbers):
    state, kept = configuration
    return state, tuple([numbers.index(number) for number in kept])
