"""The deeds of all replicas, and the texts that follow from them."""

REPLICAS = 8
LONGEST_MODULE = 40


def forces(deeds):
    """Returns for each of the deeds of one replica whether it is in force."""
    taken_back = {}
    found = []
    # Only later deeds take a deed back, so the last one is known first.
    for place in range(len(deeds), 0, -1):
        stands = place not in taken_back
        found.append(stands)
        deed = deeds[place - 1]
        if stands and deed[0] == "back":
            taken_back[deed[1]] = True
    return found[::-1]


def inserted(replica, deed):
    """Returns a triple (mark, character, mark behind which it was inserted) for each character of a change."""
    _, _, _, behind, number, text = deed
    found = []
    for offset, character in enumerate(text):
        mark = (number + offset, replica)
        found.append((mark, character, behind))
        behind = mark
    return found


def in_order(behinds):
    """Returns the marks in the order of the row; the dict has for each mark the one behind which it was inserted."""
    following = {None: None}
    for mark in sorted(behinds):
        behind = behinds[mark]
        # Deeds are added without a check: what was inserted behind nothing that is known has no place.
        if behind in following:
            following[mark] = following[behind]
            following[behind] = mark
    found = []
    mark = following[None]
    while mark is not None:
        found.append(mark)
        mark = following[mark]
    return found


class Deeds:
    """The deeds that are known, in the lists of their replicas."""

    def __init__(self):
        self.rows = [[] for _ in range(REPLICAS)]
        # What fits asks for each deed of a packet is kept at hand: for each module the marks
        # of its characters, and for each replica the greatest end of a change.
        self._marks = {}
        self._ends = [0 for _ in range(REPLICAS)]

    def counts(self):
        """Returns the numbers of deeds of the replicas."""
        return [len(deeds) for deeds in self.rows]

    def add(self, replica, deed):
        """Appends a deed, without a check."""
        self.rows[replica].append(deed)
        if deed[0] == "change":
            _, module, _, _, number, text = deed
            marks = self._marks.setdefault(module, {})
            for mark, _, _ in inserted(replica, deed):
                marks[mark] = True
            self._ends[replica] = max(self._ends[replica], number + len(text))

    def copy(self):
        """Returns a copy that shares nothing that can be modified."""
        copied = Deeds()
        for replica, deeds in enumerate(self.rows):
            for deed in deeds:
                copied.add(replica, deed)
        return copied

    def in_force(self, replica, place):
        """Returns True if this deed is in force."""
        return forces(self.rows[replica])[place - 1]

    def modules(self):
        """Returns the sorted names of the modules that a deed names."""
        return sorted(self._marks)

    def row(self, module):
        """Returns a triple (mark, character, seen) for each character that was ever inserted into the module."""
        characters = {}
        behinds = {}
        hidden = {}
        for replica, deed, stands in self._changes(module):
            for mark, character, behind in inserted(replica, deed):
                characters[mark] = character
                behinds[mark] = behind
                if not stands:
                    hidden[mark] = True
            if stands:
                for mark in deed[2]:
                    hidden[mark] = True
        return [(mark, characters[mark], mark not in hidden) for mark in in_order(behinds)]

    def text(self, module):
        """Returns the text of a module, which is empty if the module does not exist."""
        return "".join([character for _, character, seen in self.row(module) if seen])

    def last_number(self):
        """Returns the greatest end of all changes of all replicas, or 0."""
        return max(self._ends)

    def fits(self, replica, deed):
        """Returns True if the deed fits what is known."""
        if deed[0] == "back":
            return 1 <= deed[1] <= len(self.rows[replica])
        _, module, removed, behind, number, _ = deed
        named = removed if behind is None else (*removed, behind)
        marks = self._marks.get(module, {})
        return (
            1 <= len(module) <= LONGEST_MODULE
            and all([mark in marks and mark[0] < number for mark in named])
            and number >= max(1, self._ends[replica])
        )

    def _changes(self, module):
        """Returns a triple (replica, change, in force) for each change of the module."""
        return [
            (replica, deed, stands)
            for replica, deeds in enumerate(self.rows)
            for deed, stands in zip(deeds, forces(deeds))
            if deed[0] == "change" and deed[1] == module
        ]
