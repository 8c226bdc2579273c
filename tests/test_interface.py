"""Each name of the interface is defined in its file, with the parameters as written there."""

import ast
import importlib
import inspect
import pathlib
import unittest

FOLDER = pathlib.Path(__file__).resolve().parent.parent / "partsmet"
INTERFACE = {
    "basics": ["is_integer(value)", "is_count(value)"],
    "tables": [
        "is_table(value)",
        "table_parts(table)",
        "needed(table, number)",
        "all_lists(table, number)",
        "has_single_lists(table)",
        "two_lists(table)",
        "meet(table, one, other)",
        "is_distributive(table)",
        "has_differences(table)",
        "table_difference(table, one, other)",
        "two_differences(table)",
    ],
    "kinds": [
        "is_kind(value)",
        "told_kind(kind)",
        "is_single(kind)",
        "is_line(kind)",
        "is_finite(kind)",
        "state_count(kind)",
    ],
    "states": [
        "is_state(kind, value)",
        "least_state(kind)",
        "told_state(kind, state)",
        "greatest_state(kind)",
        "all_states(kind)",
    ],
    "joins": [
        "join(kind, one, other)",
        "joined(kind, states)",
        "is_at_most(kind, one, other)",
        "are_beside(kind, one, other)",
    ],
    "parts": [
        "is_part(kind, state)",
        "part_list(kind, state)",
        "lacked(kind, one, other)",
        "thinned(kind, states)",
        "is_part_list(kind, state, value)",
    ],
    "grades": ["grade(kind)", "ways(kind)", "kind_at(kind, way)", "led_out(kind, way, state)"],
    "culprits": [
        "culprit(kind, word)",
        "is_culprit(kind, word, value)",
        "lists_by(kind, value)",
        "differences_by(kind, value)",
    ],
    "differences": [
        "difference(kind, one, other)",
        "is_difference(kind, one, other, value)",
        "is_least_difference(kind, one, other, value)",
        "lot_distance(kind, one, other)",
    ],
    "logs": [
        "log_state(kind, log)",
        "beginnings(kind, log)",
        "needless(kind, log)",
        "part_log(kind, log)",
        "fresh_log(kind, log)",
        "added(kind, log, other)",
        "forgotten(kind, log, state)",
        "is_log_of(kind, state, value)",
    ],
    "views": ["is_view(kind, value)", "view_kind(kind, view)", "worth(kind, view, state)"],
    "shapes": [
        "shapes(kind, names, many)",
        "are_one(kind, view, other)",
        "parting(kind, view, other)",
        "is_parting(kind, view, other, value)",
    ],
    "questions": [
        "is_question(kind, value)",
        "asked(kind, question, state)",
        "goes_through(kind, question)",
        "decider(kind, question)",
        "two_below(kind, question)",
        "is_two_below(kind, question, value)",
    ],
    "orders": [
        "kind_parts(kind)",
        "part_order(kind)",
        "lot_count(kind)",
        "ways_up(kind)",
        "part_lot(kind, state)",
        "lot_state(kind, positions)",
    ],
    "alikes": [
        "renaming(kind, other)",
        "is_renaming(kind, other, value)",
        "least_table(kind)",
        "led_state(kind, other, value, state)",
    ],
    "webs": [
        "is_web(value)",
        "told_web(web)",
        "neighbours(web, copy)",
        "is_joined(web)",
        "has_ring(web)",
        "ring(web)",
    ],
    "runs": [
        "played(kind, web, word, run)",
        "settled(kind, web, word, run)",
        "grown(kind, run)",
        "is_fresh(kind, run)",
        "crossings(kind, web, word, run)",
        "round_run(web, many)",
    ],
    "texts": ["sorts()", "is_of_sort(sort, value)", "written(sort, value)"],
    "readers": ["read(text)"],
    "claims": [
        "words()",
        "is_claim(value)",
        "is_true(claim)",
        "contrary(claim)",
        "paper_of(claim)",
        "is_paper_of(claim, value)",
    ],
    "commands": ["is_name(value)", "is_command(value)", "is_deed(value)"],
    "desk": ["tried(desk, action)"],
}
# The classes of partsmet/desk.py: their methods, and what stands over these.
CLASSES = {
    "Desk": {
        "__init__(self)": "",
        "names(self)": "property",
        "labels(self)": "property",
        "__len__(self)": "",
        "__getitem__(self, name)": "",
        "__contains__(self, value)": "",
        "claim_of(self, label)": "",
        "do(self, command)": "",
        "__call__(self, command)": "",
        "do_all(self, *commands)": "",
        "attempt(self, *commands)": "",
        "attach(self, label, paper)": "",
        "fits(self, label)": "",
        "lines(self)": "",
        "copy(self)": "",
        "again(cls, lines)": "classmethod",
    },
    "Trial": {"__init__(self, desk)": "", "__enter__(self)": "", "__exit__(self, kind, value, trace)": ""},
}


class Interface(unittest.TestCase):
    def test_parameters(self):
        for name, lines in INTERFACE.items():
            module = importlib.import_module("partsmet." + name)
            for line in lines:
                function = getattr(module, line.partition("(")[0])
                self.assertEqual(function.__name__ + str(inspect.signature(function)), line)

    def test_defined_in_their_files(self):
        for name, lines in INTERFACE.items():
            tree = ast.parse((FOLDER / (name + ".py")).read_text())
            defined = [node.name for node in tree.body if isinstance(node, ast.FunctionDef)]
            for line in lines:
                self.assertEqual(defined.count(line.partition("(")[0]), 1, line)

    def test_classes(self):
        tree = ast.parse((FOLDER / "desk.py").read_text())
        classes = {node.name: node for node in tree.body if isinstance(node, ast.ClassDef)}
        self.assertEqual(set(classes), set(CLASSES))
        for name, lines in CLASSES.items():
            self.assertEqual(classes[name].bases, [])
            defined = {f"{node.name}({ast.unparse(node.args)})": node.decorator_list
                       for node in classes[name].body if isinstance(node, ast.FunctionDef)}
            for line, above in lines.items():
                self.assertEqual([each.id for each in defined[line]], [above] if above else [], (name, line))


if __name__ == "__main__":
    unittest.main()
