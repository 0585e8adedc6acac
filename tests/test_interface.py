"""Each name of the interface is defined in its file, and in its class, with its arguments."""

import ast
import unittest
from pathlib import Path

PACKAGE = Path(__file__).resolve().parent.parent / "textworkshop"
FUNCTIONS = {
    "signs": ["is_sign(value)", "is_text(value)", "is_word(value)", "lines_of(text)", "text_of(lines)",
              "line_starts(text)", "all_signs()"],
    "statetables": ["table_of(first, step, is_good, named)", "table_of_ways(firsts, steps, is_good, named)"],
    "textsets": ["all_texts()", "no_texts()", "one_text(text)", "beginning_with(word)", "ending_with(word)",
                 "having_word(word)", "joined_texts(s, t)", "each_line(s)", "some_line(s)"],
    "tongues": [], "readings": [], "rereading": [],
    "tonguesets": ["closed_texts(tongue)", "texts_read_as(tongue, kinds)", "texts_read_apart(one, two)",
                   "idle_rules(tongue)", "lean_tongue(tongue)"],
    "words": ["line_words(line)", "quoted_text(word)"],
    "linetests": ["plain_test(word, argument=None)", "range_test(first, second)", "other_test(test)"],
    "linetesttexts": ["read_linetest(line)", "linetest_text(test)"],
    "guards": [
        "text_guard(how, word)", "places_guard(word, most)", "signs_guard(most)", "lines_guard(test, most)",
        "each_line_guard(test)", "some_line_guard(test)", "order_guard(first, second)",
        "paired_guard(opening, closing, depth, kind=None)", "closed_guard()", "kind_guard(how, word, kind)",
        "not_guard(part)", "and_guard(parts)", "or_guard(parts)"],
    "guardtexts": ["read_guard(text)"],
    "guardsets": [
        "guard_weight(guard, tongue=None)", "linetest_weight(test)", "guard_set(guard, tongue=None)",
        "implied_text(one, other, tongue=None)", "parting_text(one, other, tongue=None)",
        "needless_guards(guards, tongue=None)", "clashing_guards(guards, tongue=None)",
        "lost_place(guard, text, tongue=None)", "least_rest(guard, text, tongue=None)"],
    "mending": ["mended_text(guard, text, tongue=None)"],
    "steps": [
        "replace_step(old, new, kind=None, test=None)", "first_step(old, new)", "once_step(old, new)",
        "drop_step(test)", "keep_step(test)", "put_step(where, new, test)", "strip_step(old, test)",
        "want_step(guard)"],
    "scripts": [],
    "runs": ["run_script(script, text)", "refused_step(script, text)", "run_stages(script, text)",
             "taken_places(step, text, tongue=None)"],
    "origins": ["fates_of(script, text)", "origins_of(script, text)", "place_behind(script, text, place)"],
    "scripttexts": ["read_script(text, *, tongue=None)", "step_text(step)", "script_text(script)"],
    "weights": ["step_weight(step, *, tongue=None)", "script_weight(script)", "test_guess(test)"],
    "feeds": [],
    "alikes": ["unlike_text(first, second, *, under=None)", "unrestored_text(first, second, *, under=None)"],
    "carried": [
        "broken_text(script, goal, *, under=None)", "refused_text(script, number=None, *, under=None)",
        "needed_set(script, goal)", "needed_many(script, goal, length)", "origin_text(script, result, *, under=None)"],
    "clashes": ["clash_texts(script, *, under=None)"],
    "idles": [
        "part_script(script, numbers)", "moved_script(script, number, place)",
        "idle_text(script, number, *, under=None)", "idle_steps(script, *, under=None)",
        "least_steps(script, *, under=None)", "shown_text(script, number, truth, *, under=None)",
        "order_text(script, number, *, under=None)", "movable_places(script, number, *, under=None)"],
    "merges": ["conflict_pieces(text, one, other)", "merged_text(text, one, other)", "merged_hunks(text, one, other)",
               "merged_pieces(text, one, other)"],
    "eitherorder": ["order_parting(one, other, *, under=None)", "merge_conflict(one, other, *, under=None)",
                    "merge_parting(one, other, *, under=None)"],
    "desks": [],
    "trust": ["is_trusted(desk, name, label)", "trust_gap(desk, name, label)"],
    "records": [],
}
METHODS = {
    ("statetables", "StateTable"): ["__init__(self, named, rows, good)", "__eq__(self, other)", "moved(self, state, sign)",
                                    "reached(self, text)", "is_good(self, state)"],
    ("textsets", "TextSet"): [
        "__init__(self, table)", "__contains__(self, text)", "__and__(self, other)", "__or__(self, other)",
        "__sub__(self, other)", "__invert__(self)", "__eq__(self, other)", "is_empty(self)", "within(self, other)",
        "least_text(self)", "many_of(self, length)", "text_at(self, length, number)", "all_many(self)",
        "behind(self, word)", "ahead(self, word)"],
    ("tongues", "Tongue"): [
        "__init__(self, text)", "__len__(self)", "__iter__(self)", "__eq__(self, other)", "kinds(self, text)",
        "pieces(self, text)", "piece_at(self, text, place)", "line_kinds(self, text)", "is_closed(self, text)",
        "closing(self, text)", "without(self, index)"],
    ("readings", "ReadingMachine"): ["__init__(self, tongue)", "moved(self, stand, sign)", "ended(self, stand)"],
    ("rereading", "Rereading"): ["__init__(self, tongue, text)", "kinds(self)", "write(self, place, text)",
                                 "cut(self, start, stop)"],
    ("linetests", "LineTest"): ["truths(self, lines)", "__eq__(self, other)"],
    ("guards", "Guard"): [
        "__invert__(self)", "__and__(self, other)", "__or__(self, other)", "__eq__(self, other)",
        "holds_of(self, text, tongue=None)", "reasons(self, text, tongue=None)"],
    ("steps", "Step"): ["__eq__(self, other)"],
    ("scripts", "Script"): ["__init__(self, steps, tongue=None)", "__eq__(self, other)"],
    ("origins", "Fates"): [],
    ("feeds", "Feed"): ["__init__(self, script)", "is_lost(self)", "push(self, text)", "remainder(self)",
                        "parted(self)"],
    ("desks", "Desk"): [
        "__init__(self)", "__getitem__(self, name)", "__contains__(self, name)", "__iter__(self)",
        "open_file(self, name, text, *, tongue=None)", "close_file(self, name)", "add_guard(self, name, guard)",
        "remove_guard(self, name, number)", "file_guards(self, name)", "keep_script(self, name, script)",
        "script_of(self, name)", "drop_script(self, name)", "script_names(self)",
        "exchange_script(self, name, script)", "do_script(self, name, label)",
        "do_part(self, name, start, stop, label)", "write_text(self, name, place, text)",
        "cut_text(self, name, start, stop)", "merge_scripts(self, name, one, other)",
        "hide_lines(self, name, first, last)", "show_lines(self, name, number)", "hidden_of(self, name)",
        "whole_text(self, name)", "undo(self)", "redo(self)", "attempt(self, action)"],
    ("records", "Recorder"): ["__init__(self, desk)", "do_script(self, name, label)", "script(self)", "clear(self)"],
}


def defined(body):
    return [f"{node.name}({ast.unparse(node.args)})" for node in body if isinstance(node, ast.FunctionDef)]


def tree_of(name):
    return ast.parse((PACKAGE / f"{name}.py").read_text())


class InterfaceTest(unittest.TestCase):
    def test_functions(self):
        for name, told in FUNCTIONS.items():
            with self.subTest(module=name):
                self.assertLessEqual(set(told), set(defined(tree_of(name).body)))

    def test_methods(self):
        for (name, told_class), told in METHODS.items():
            with self.subTest(module=name, told_class=told_class):
                classes = {node.name: node for node in tree_of(name).body if isinstance(node, ast.ClassDef)}
                self.assertLessEqual(set(told), set(defined(classes[told_class].body)))


if __name__ == "__main__":
    unittest.main()
