"""What is in force of the definitions of a program."""

from quillrun.components import components
from quillrun.inference import Inference
from quillrun.uses import makes, uses


def typed(definitions, program):
    """Returns the schemes of the functions, acts and views of a component, or None if it is not typed."""
    return Inference(definitions, program).solution()


def twice_made(definitions):
    """Returns a dict with the names that are made twice."""
    made = {}
    twice = {}
    for definition in definitions:
        for name in makes(definition):
            if name in made:
                twice[name] = True
            made[name] = True
    return twice


class Program:
    """What is in force of a list of definitions, and what is wrong with the others."""

    def __init__(self, definitions, judge=None):
        self.definitions = list(definitions)
        self.force = []
        self.problems = {}
        self.schemes = {}
        self.cells = {}
        self.data = {}
        self.makers = {}
        self._found = {}
        self._settle(typed if judge is None else judge)

    def find(self, name):
        """Returns the definition in force with this name, or None."""
        return self._found.get(name)

    def _settle(self, judge):
        """Finds what is in force, component by component."""
        left = self._made_once()
        makers = {maker: name for name, index in left.items() for maker in makes(self.definitions[index])[1:]}
        used = {name: uses(self.definitions[index], makers) for name, index in left.items()}
        sorts = {name: self.definitions[index][0] for name, index in left.items()}
        unsteady = {}
        for names in components(used):
            if reaches_state(names, used, sorts, unsteady):
                unsteady.update({name: True for name in names})
            problem = self._missing(names, used) or problem_of_reaching(names, used, sorts, unsteady)
            if problem is None:
                problem = self._enforce([self.definitions[left[name]] for name in names], judge)
            if problem is not None:
                self.problems.update({left[name]: problem for name in names})

    def _made_once(self):
        """Returns a dict with the indexes of the definitions that make no name twice; the others have their problem."""
        twice = twice_made(self.definitions)
        left = {}
        for index, definition in enumerate(self.definitions):
            names = [name for name in makes(definition) if name in twice]
            if names:
                self.problems[index] = ("twice", names[0])
            else:
                left[definition[1]] = index
        return left

    def _missing(self, names, used):
        """Returns the problem of the first name that is neither in the component nor in force, if there is one."""
        component = {name: True for name in names}
        for name in names:
            for other in used[name]:
                if other not in component and other not in self._found:
                    return ("missing", other)
        return None

    def _enforce(self, definitions, judge):
        """Puts the definitions of a component in force, or returns their problem."""
        schemes = judge(list(definitions), self)
        if schemes is None:
            return ("untyped",)
        self.force.extend(definitions)
        for definition in definitions:
            name = definition[1]
            self._found[name] = definition
            if definition[0] == "data":
                self.data[name] = definition[2]
                self.makers.update({maker: name for maker, _ in definition[2]})
            elif definition[0] == "cell":
                self.cells[name] = definition[2]
            else:
                self.schemes[name] = schemes[name]
        return None


def reaches_state(names, used, sorts, unsteady):
    """Returns True if a component reaches a cell or a view; `unsteady` has the earlier names that do."""
    return any([sorts.get(other) in ("cell", "view") or other in unsteady for name in names for other in used[name]])


def problem_of_reaching(names, used, sorts, unsteady):
    """Returns the problem of a view that reaches itself or a cell that reaches a cell or a view, if there is one."""
    in_ring = len(names) > 1 or names[0] in used[names[0]]
    if in_ring and any([sorts[name] == "view" for name in names]):
        return ("ring",)
    if any([sorts[name] == "cell" and name in unsteady for name in names]):
        return ("unsteady",)
    return None
