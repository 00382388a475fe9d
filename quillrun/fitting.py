"""Whether values fit the types of arguments."""

from quillrun.values import form, has_kind


def kinds_fit(program, values, arguments):
    """Returns True if some types for the variables of the arguments make all values have these types."""
    if len(values) != len(arguments):
        return False
    # For each variable the values that must have one type, which it stands for.
    for_variables = {}
    for value, (levels, base) in zip(values, arguments):
        if isinstance(base, int):
            inside = values_below([value], levels)
            if inside is None:
                return False
            for_variables.setdefault(base, []).extend(inside)
        elif not has_kind(program, value, (levels, base)):
            return False
    return all([share_kind(program, found) for found in for_variables.values()])


def values_below(values, levels):
    """Returns what lies so many levels of lists below the values, or None if what lies above is not all lists."""
    for _ in range(levels):
        if not are_lists(values):
            return None
        values = items_of(values)
    return values


def share_kind(program, values):
    """Returns True if one type is that of all these values."""
    while values and are_lists(values):
        values = items_of(values)
    if not values:
        return True
    base = base_of(program, values[0])
    return base is not None and all([has_kind(program, value, (0, base)) for value in values])


def base_of(program, value):
    """Returns the base of the type of a value that is no list, or None if its maker is not in force."""
    return program.makers.get(value[1]) if form(value) == "make" else form(value)


def are_lists(values):
    """Returns True if all values are lists."""
    return all([form(value) == "list" for value in values])


def items_of(lists):
    """Returns the items of all these lists."""
    return [item for found in lists for item in found[1]]
