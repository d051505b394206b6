"""Layers: how high each thing stands over what leans on nothing."""

from leanrow.webs import steps_by_letters


def levels_by_name(row):
    """The level of each thing, by its name."""
    steps = steps_by_letters(row.names(), row.leanings())
    levels = {}
    # In the row's order each thing comes behind all that it leans on, so the levels of those are known.
    for name in row.names():
        levels[name] = max([levels[other] for other in steps[name]], default=-1) + 1
    return levels


def level_of(row, name):
    """0 for a thing that leans on nothing, else one more than the greatest level of those that it leans on."""
    # The row is asked first: it refuses what is no thing there, of any kind, which no dict could be asked for.
    at = row.place(name)
    return levels_by_name(row)[row.names()[at]]


def layers_of(row):
    """The things of each level, by their letters, level 0 first."""
    levels = levels_by_name(row)
    layers = []
    for level in range(max(levels.values(), default=-1) + 1):
        layers.append(sorted([name for name in levels if levels[name] == level]))
    return layers


def longest_of(row):
    """A chain as long as any: from a thing of the last layer down through each layer."""
    leanings = row.leanings()
    chain = []
    for layer in reversed(layers_of(row)):
        # By letters, so that what is told rests on the leanings alone, not on how the things stand.
        fitting = [name for name in layer if not chain or (chain[-1], name) in leanings]
        chain.append(fitting[0])
    return chain
