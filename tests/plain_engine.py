"""What an engine has to do, as point [49] tells it, for lists of chunks that are given one after another."""
from quillrun.errors import RefusedChunk
from quillrun.live import seen
from quillrun.parser import parse
from quillrun.program import Program, typed


def parsed(chunk):
    """The tree of a chunk, or the position at which it is refused."""
    try:
        return parse(chunk)
    except RefusedChunk as refused:
        return refused.position


def trees(chunks):
    """The trees of the chunks that are not refused."""
    return [tree for tree in map(parsed, chunks) if not isinstance(tree, int)]


def problems(chunks, program):
    """What is wrong with each chunk."""
    found, index = [], 0
    for chunk in chunks:
        tree = parsed(chunk)
        if isinstance(tree, int):
            found.append(("refused", tree))
        else:
            found.append(program.problems.get(index))
            index += 1
    return found


class PlainEngine:
    def __init__(self):
        self.before = (set(), set(), set())
        self.done = (0, 0, 0)

    def update(self, chunks):
        """Counts what is to be done, and returns the program."""
        judged = set()

        def judge(definitions, program):
            judged.add(repr((definitions, seen(program, definitions))))
            return typed(definitions, program)
        program = Program(trees(chunks), judge)
        compiled = {repr(one) for one in program.force if one[0] in ("fun", "view", "act")}
        now = (set(chunks), judged, compiled)
        self.done = tuple(count + len(new - old) for count, new, old in zip(self.done, now, self.before))
        self.before = now
        return program
