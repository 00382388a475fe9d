"""The components of names that use one another."""


def components(uses):
    """Returns the list of components, each a list of names, for a dict with the names that each name uses."""
    groups = {}
    reached = reached_names(uses)
    for name in sorted(uses):
        # Two names reach the same names, themselves counted, if and only if they reach each other.
        groups.setdefault(reached[name], []).append(name)
    ordered = sorted(groups.items(), key=lambda group: (count_of(group[0]), group[1][0]))
    return [names for _, names in ordered]


def reached_names(uses):
    """Returns for each name what it reaches, itself counted, as an integer with a bit for each name."""
    reached = {name: 1 << place for place, name in enumerate(uses)}
    order = used_first(uses)
    growing = True
    while growing:
        growing = False
        for name in order:
            found = reached[name]
            for used in known_uses(uses, name):
                found = found | reached[used]
            if found != reached[name]:
                reached[name] = found
                growing = True
    return reached


def used_first(uses):
    """Returns the names, each one behind those that it uses, as far as no ring prevents this.

    In this order what is reached is found in a few rounds, however long the ways are.
    """
    order = []
    met = {}
    for first in uses:
        waiting = [(first, False)]
        while waiting:
            name, is_done = waiting.pop()
            if is_done:
                order.append(name)
            elif name not in met:
                met[name] = True
                waiting.append((name, True))
                waiting.extend([(used, False) for used in known_uses(uses, name)])
    return order


def known_uses(uses, name):
    """Returns the names that a name uses, without those that are not considered."""
    return [used for used in uses[name] if used in uses]


def count_of(reached):
    """Returns the number of names in such an integer."""
    return f"{reached:b}".count("1")
