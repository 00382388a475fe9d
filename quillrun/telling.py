"""What the names of a program tell a run, and how runs that need views go on."""


class World:
    """A program, the outcomes that its cells hold, and the views that are known."""

    def __init__(self, program, held, views):
        self.program = program
        self.held = held
        # For each view that is known the pair of its outcome and the tuple of what it read.
        self.views = views
        self.codes = {}

    def sort_of(self, name):
        """Returns the word of the definition in force with this name, or None."""
        found = self.program.find(name)
        return None if found is None else found[0]

    def lacks(self, name):
        """Returns True if the name is a view in force that is not known yet."""
        return name not in self.views and self.sort_of(name) == "view"

    def told(self, name):
        """Returns the outcome that a name tells and the tuple of what is read for it."""
        if self.sort_of(name) == "view":
            return self.views[name]
        if self.sort_of(name) == "cell":
            return self.held[name], (name,)
        return ("fault", ("missing", name)), (name,)


def finished(run, world, begun):
    """Brings a run to its end and returns its outcome, its steps and the list of what it read.

    A view that the run needs is run first, by the run that `begun` returns for the world and its name;
    these runs wait in a list, since views may be read through any number of views.
    """
    waiting = [(None, run)]
    while waiting:
        view, top = waiting[-1]
        needed = top.go()
        if needed is not None:
            waiting.append((needed, begun(world, needed)))
        else:
            waiting.pop()
            if view is not None:
                world.views[view] = (top.outcome(), (view, *top.reads))
    return run.outcome(), run.steps, list(run.reads)
