"""The names and arguments of the interface, each in the file under which it is listed."""
import importlib
import inspect
import unittest

FUNCTIONS = {
    "edits": ("edit_deed(deeds, module, index, count, text)", "back_deed(deeds, replica)", "again_deed(deeds, replica)",
              "lacking(deeds, counts)", "received(deeds, packet)"),
    "chunks": ("chunks(text)",),
    "tokens": ("tokenize(chunk)",),
    "parser": ("parse(chunk)",),
    "printer": ("write_definition(tree)", "write_kind(kind)"),
    "components": ("components(uses)",),
    "kinds": ("unify(equations)", "replaced(kind, found)", "scheme(arguments, result)", "is_instance(first, second)"),
    "uses": ("makes(definition)", "makers_used(definition)", "uses(definition, makers)"),
    "program": ("typed(definitions, program)",),
    "values": ("same(first, second)", "size(value)", "depth(value)", "is_large(value)", "write_value(value)",
               "has_kind(program, value, kind)"),
    "code": ("code_of(e, names)", "definition_code(definition)"),
    "machine": ("run_code(program, held, code, values)", "call_code(program, held, name, values)"),
    "cells": ("shape(program, kind)", "takes(program, name, before, after)", "outcomes(program, held)",
              "turned(program, held)"),
    "acts": ("make_act(program, held, name, values)",),
    "live": ("seen(program, definitions)",),
    "codes": ("write_number(number)", "write_integer(number)", "write_string(text)", "write_deed(deed)",
              "write_packet(packet)", "write_value(value)", "write_outcome(outcome)", "write_cell(name, shape, outcome)",
              "write_group(triples, cells)"),
    "log": ("write_record(data)", "checksum(data)", "read_records(data)", "log_start(turn, base)",
            "write_note(triples, cells)", "read_log(data)", "counting_file(first, second)"),
    "fitting": ("kinds_fit(program, values, arguments)",),
}
CLASSES = {
    ("errors", "RefusedChunk(position)"): (),
    ("documents", "Deeds()"): ("counts()", "add(replica, deed)", "copy()", "in_force(replica, place)", "modules()",
                               "row(module)", "text(module)", "last_number()", "fits(replica, deed)"),
    ("program", "Program(definitions, judge=None)"): ("find(name)",),
    ("meaning", "Meaning(program, held)"): ("call(name, values)", "look(name)", "run(e, names, values)"),
    ("views", "Views()"): ("ask(program, held, name)", "kept()", "change(before, held_before, after, held_after)"),
    ("live", "Engine()"): ("update(chunks)",),
    ("reading", "Reader(data)"): ("read_number()", "read_integer()", "read_string()", "read_deed()", "read_packet()",
                                  "read_value()", "read_outcome()", "read_cell()", "read_group()", "end()"),
    ("files", "File()"): ("write(data, steps)", "shorten(size, steps)", "flush(steps)", "content()", "pending()",
                          "lose(steps)"),
    ("log", "Base()"): ("copy()", "data()", "grown(triples, cells)"),
    ("workshop", "Workshop(replica)"): (
        "edit(module, index, count, text)", "back()", "again()", "text(module)", "modules()", "counts()", "packet(counts)",
        "receive(data)", "program()", "cells()", "code(name)", "call(name, values)", "act(name, values)", "view(name)",
        "status()", "tidy()", "fail_after(steps)", "power(first, second)", "open_again()", "log(index)"),
}


def written(name, function, skipped=0):
    """The name with its parameters, as the interface writes them."""
    return f"{name}({', '.join([str(one) for one in inspect.signature(function).parameters.values()][skipped:])})"


class InterfaceTest(unittest.TestCase):
    def test_functions(self):
        for file, listed in FUNCTIONS.items():
            module = importlib.import_module("quillrun." + file)
            for row in listed:
                function = getattr(module, row.split("(")[0])
                self.assertEqual((written(function.__name__, function), function.__module__), (row, module.__name__))

    def test_classes_and_their_own_methods(self):
        for (file, row), listed in CLASSES.items():
            module = importlib.import_module("quillrun." + file)
            kind = getattr(module, row.split("(")[0])
            self.assertEqual((written(kind.__name__, kind.__init__, 1), kind.__module__), (row, module.__name__))
            for method in listed:
                function = vars(kind)[method.split("(")[0]]
                self.assertEqual(written(function.__name__, function, 1), method)


if __name__ == "__main__":
    unittest.main()
