"""The row of a module as points [8] to [10] say it word by word, slowly; for comparison."""


def in_force(deeds, place):
    later = range(place + 1, len(deeds) + 1)
    return not any(deeds[k - 1] == ("back", place) and in_force(deeds, k) for k in later)


def characters(rows, module):
    """A pair (mark, (behind, character, in force)) for each character, the least mark first."""
    found = {}
    for replica, deeds in enumerate(rows):
        for place, deed in enumerate(deeds, start=1):
            if deed[0] == "change" and deed[1] == module:
                behind = deed[3]
                for offset, character in enumerate(deed[5]):
                    mark = (deed[4] + offset, replica)
                    found[mark] = (behind, character, in_force(deeds, place))
                    behind = mark
    return sorted(found.items())


def removed_marks(rows):
    return {mark for deeds in rows for place, deed in enumerate(deeds, start=1)
            if deed[0] == "change" and in_force(deeds, place) for mark in deed[2]}


def row(rows, module):
    found = characters(rows, module)
    order = []
    for mark, (behind, _, _) in found:
        order.insert(0 if behind is None else order.index(behind) + 1, mark)
    told = dict(found)
    gone = removed_marks(rows)
    return [(mark, told[mark][1], told[mark][2] and mark not in gone) for mark in order]
