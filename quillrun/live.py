"""The live engine, which keeps up with the chunks of the texts and does nothing twice."""

from quillrun.code import definition_code
from quillrun.errors import RefusedChunk
from quillrun.parser import parse
from quillrun.program import Program, typed
from quillrun.uses import makes, uses

COMPILED = ("fun", "view", "act")


def seen(program, definitions):
    """Returns what the definitions of a component see: a pair for each name that they make or use."""
    words = [word for definition in definitions for word in (*makes(definition), *uses(definition, {}))]
    return [(word, seen_of(program, word)) for word in sorted(set(words))]


def seen_of(program, word):
    """Returns what a name or a maker is among what is in force, as far as types depend on it, or None."""
    if word in program.makers:
        makers = program.data[program.makers[word]]
        return program.makers[word], dict(makers)[word], tuple([maker for maker, _ in makers])
    if word in program.data:
        return "data", program.data[word]
    if word in program.cells:
        return "cell", program.cells[word]
    definition = program.find(word)
    if definition is None or definition[0] == "act":
        return None
    return definition[0], program.schemes[word]


def read_chunk(chunk):
    """Returns the pair of the tree of a chunk and None, or of None and the position at which it is refused."""
    try:
        return parse(chunk), None
    except RefusedChunk as refused:
        return None, refused.position


class Engine:
    """What is in force of a list of chunks, with what was done for the list that was given last."""

    def __init__(self):
        self.read = 0
        self.judged = 0
        self.compiled = 0
        self.problems = []
        self.program = Program([])
        self.codes = {}
        # What `read_chunk` returned for each chunk.
        self._readings = {}
        # For each component that was judged, by its first name: its trees, what they saw, what `typed` returned.
        self._judgements = {}

    def update(self, chunks):
        """Keeps up with the new list of chunks."""
        self._readings = self._readings_of(chunks)
        trees = [self._readings[chunk][0] for chunk in chunks]
        program = self._program_of([tree for tree in trees if tree is not None])
        # The program before this one still tells which codes are there already.
        self.codes = self._codes_of(program)
        self.program = program
        self.problems = self._problems_of(chunks)

    def _readings_of(self, chunks):
        """Returns what is read of each chunk."""
        readings = {}
        for chunk in chunks:
            if chunk in self._readings:
                readings[chunk] = self._readings[chunk]
            elif chunk not in readings:
                readings[chunk] = read_chunk(chunk)
                self.read += 1
        return readings

    def _program_of(self, definitions):
        """Returns the program of definitions; what was judged for it takes the place of what was judged before."""
        judgements = {}
        program = Program(definitions, lambda component, earlier: self._judge(component, earlier, judgements))
        self._judgements = judgements
        return program

    def _judge(self, definitions, program, judgements):
        """Returns what `typed` returns for a component, and notes it among the new judgements."""
        first = definitions[0][1]
        sight = seen(program, definitions)
        judgement = self._judgements.get(first)
        if judgement is None or judgement[:2] != (definitions, sight):
            judgement = (definitions, sight, typed(definitions, program))
            self.judged += 1
        judgements[first] = judgement
        return judgement[2]

    def _codes_of(self, program):
        """Returns the codes of the definitions in force."""
        codes = {}
        for definition in program.force:
            name = definition[1]
            if definition[0] in COMPILED:
                if self.program.find(name) == definition:
                    codes[name] = self.codes[name]
                else:
                    codes[name] = definition_code(definition)
                    self.compiled += 1
        return codes

    def _problems_of(self, chunks):
        """Returns what is wrong with each chunk, or None."""
        problems = []
        index = 0
        for chunk in chunks:
            tree, position = self._readings[chunk]
            if tree is None:
                problems.append(("refused", position))
            else:
                # The program numbers the definitions of the chunks that are read only.
                problems.append(self.program.problems.get(index))
                index += 1
        return problems
