"""How many words have each length, from how far runs are apart."""


def distances_of(runs, many):
    """For each number of factors, how many runs differ from the first one in just so many."""
    found = [0] * (many + 1)
    for run in runs:
        apart = len([place for place in range(many) if run[place] != runs[0][place]])
        found[apart] = found[apart] + 1
    return found


def lengths_of(p, runs, many):
    """For each length, how many defining words of a plan with these runs have it."""
    found = [0] * (many + 1)
    for apart, total in enumerate(distances_of(runs, many)):
        for length, weight in enumerate(weights_at(p, many, apart)):
            found[length] = found[length] + total * weight
    return [total // len(runs) for total in found]


def weights_at(p, many, apart):
    """The coefficients of (1 - z) ** apart * (1 + (p - 1) * z) ** (many - apart), from that of z ** 0 on."""
    found = [1]
    for at in range(many):
        factor = -1 if at < apart else p - 1
        found = [one + factor * other for one, other in zip(found + [0], [0] + found)]
    return found
