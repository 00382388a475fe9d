"""The deeds that a replica makes, and the packets in which deeds travel."""

from quillrun.documents import forces
from quillrun.errors import NothingToTakeBack, OutOfText


def edit_deed(deeds, module, index, count, text):
    """Returns the change of an edit."""
    marks = [mark for mark, _, seen in deeds.row(module) if seen]
    if index + count > len(marks):
        raise OutOfText("the text of the module ends before")
    removed = tuple(marks[index:index + count])
    behind = marks[index - 1] if index > 0 else None
    return ("change", module, removed, behind, deeds.last_number() + 1, text)


def back_deed(deeds, replica):
    """Returns the deed that takes back the last change in force of the replica."""
    own = deeds.rows[replica]
    stands = forces(own)
    for place in range(len(own), 0, -1):
        if stands[place - 1] and own[place - 1][0] == "change":
            return ("back", place)
    raise NothingToTakeBack("no change is in force")


def again_deed(deeds, replica):
    """Returns the deed that takes back the last taking back of a change, if no change was made after it."""
    own = deeds.rows[replica]
    stands = forces(own)
    for place in range(len(own), 0, -1):
        deed = own[place - 1]
        if deed[0] == "change":
            break
        if stands[place - 1] and own[deed[1] - 1][0] == "change":
            return ("back", place)
    raise NothingToTakeBack("no change was taken back since the last change")


def lacking(deeds, counts):
    """Returns the packet with the deeds that lie after the counts."""
    return [
        (replica, place, deed)
        for replica, own in enumerate(deeds.rows)
        for place, deed in enumerate(own, start=1)
        if place > counts[replica]
    ]


def received(deeds, packet):
    """Returns new Deeds with what was known and what was taken, and the list of the triples that were taken."""
    offers = {}
    for index, (replica, place, _) in enumerate(packet):
        offers.setdefault((replica, place), []).append(index)
    known = deeds.copy()
    taken = []
    index = first_fitting(known, packet, offers)
    while index is not None:
        replica, _, deed = packet[index]
        known.add(replica, deed)
        taken.append(packet[index])
        index = first_fitting(known, packet, offers)
    return known, taken


def first_fitting(known, packet, offers):
    """Returns the index of the first triple that can be taken now, or None.

    The dict has for each pair (replica, place) the indexes of its triples, so that not the
    whole packet is searched for each triple that is taken.
    """
    fitting = [
        index
        for replica, count in enumerate(known.counts())
        for index in offers.get((replica, count + 1), [])
        if known.fits(replica, packet[index][2])
    ]
    return min(fitting, default=None)
