"""What a program means, with what its cells hold."""

from quillrun.telling import World, finished
from quillrun.tree_run import TreeRun


def view_run(world, name):
    """Returns a run of a view in force that has not begun."""
    run = TreeRun(world)
    run.leave((world.program.find(name)[2],), (), None)
    return run


def look_in(world, name):
    """Returns outcome, steps and reads of what a name tells in a world; the views that this needs become known."""
    run = TreeRun(world)
    run.pending.append(("tell", name))
    return finished(run, world, view_run)


class Meaning:
    """What calls, names and expressions come to; views are run once and remembered."""

    def __init__(self, program, held):
        self._world = World(program, dict(held), {})

    def call(self, name, values):
        """Returns outcome, steps and reads of a call from outside."""
        run = TreeRun(self._world)
        run.results.extend(values)
        run.pending.append(("call", name, len(values)))
        return finished(run, self._world, view_run)

    def look(self, name):
        """Returns outcome, steps and reads of what a name tells that is not local."""
        return look_in(self._world, name)

    def run(self, e, names, values):
        """Returns outcome, steps and reads of an expression with local names, the last one the nearest."""
        run = TreeRun(self._world)
        run.leave((e,), tuple(zip(names, values)), None)
        return finished(run, self._world, view_run)
