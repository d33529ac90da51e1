"""Promise [4] and the interface: names, files, parameters, and calls that change nothing."""

import copy
import importlib
import inspect
import unittest

from centsatonce.disk import Disk
from centsatonce.journal import Journal
from centsatonce.knots import Knot
from centsatonce.tables import Table

TABLE = Table(("cup", "jam", "tea"), ((0, 1), (1, 2), (0, 2), (1,)))
ERRORS = ((1, 2), (0, 1), (-1, 3))
LINES = ((1, (5, 2)), (0, (1, 2)), (2, (1, 3)))
DAY = ((1, (5, 2), 3), (0, (1, 2), 0), (2, (1, 3), 0))
STEPS = (("total", 0, 1), ("total", 1, 1), ("less", 1, 0, 1))
TREE = ("line", 0, (1, 2), ("off", 0), ("off", 1))
HALF = (1, 2)

# For each file its functions and classes, each with some right arguments by name, in their sequence.
CALLS = {
    "errors": {
        "TillError": None, "InvalidTable": {"at": 0}, "InvalidText": {"line": 0, "at": 0}, "InvalidLine": {"at": 0},
        "InvalidDay": {"at": 0}, "InvalidPaper": {"at": 0}, "InvalidNumber": {"word": "x"}, "Refused": {"word": "x"},
        "Broken": {"word": "x"},
    },
    "printer": {
        "show_fraction": {"one": HALF}, "show_table": {"table": TABLE}, "show_lines": {"table": TABLE, "lines": LINES},
        "show_day": {"table": TABLE, "day": DAY}, "show_sequence": {"table": TABLE, "sequence": (0, 2)},
    },
    "disk": {
        "Disk": {"cells": (0, 0)}, "pending_places": {"events": ((0, 1),)},
        "cut_cells": {"cells": (0, 0), "events": ((0, 1),), "octets": (7,)},
    },
    "lexer": {"marks_of": {"text": "tea 1"}},
    "numbers": {
        "fraction_of": {"top": 2, "bottom": 4}, "is_fraction": {"value": HALF}, "added": {"one": HALF, "other": HALF},
        "opposite_of": {"one": HALF}, "taken": {"one": HALF, "other": HALF}, "timed": {"one": HALF, "other": HALF},
        "is_less": {"one": HALF, "other": HALF}, "is_small": {"one": HALF}, "floor_of": {"one": HALF},
        "ceiling_of": {"one": HALF}, "part_of": {"one": HALF}, "sum_of": {"some": (HALF,)},
        "weighed": {"weights": (3,), "some": (HALF,)}, "least_of": {"some": (HALF,)}, "greatest_of": {"some": (HALF,)},
    },
    "tables": {
        "Table": {"kinds": ("a",), "totals": ((0,),)}, "kind_number": {"table": TABLE, "name": "tea"},
        "totals_with": {"table": TABLE, "kind": 1}, "classes_of": {"table": TABLE}, "class_of_kind": {"table": TABLE, "kind": 1},
        "class_numbers": {"table": TABLE}, "totals_by_classes": {"table": TABLE},
        "without_totals": {"table": TABLE, "totals": (1,)}, "with_total": {"table": TABLE, "total": (1,)},
        "without_kinds": {"table": TABLE, "kinds": (1,)}, "renamed_table": {"table": TABLE, "names": ("b", "a", "c")},
        "merged": {"table": TABLE}, "core_of": {"table": TABLE},
    },
    "days": {
        "check_line": {"table": TABLE, "value": LINES[0]}, "choices": {"amount": HALF},
        "check_day": {"table": TABLE, "value": DAY},
        "errors_behind": {"errors": ERRORS, "kind": 1, "amount": HALF, "whole": 1}, "errors_of": {"table": TABLE, "day": DAY},
        "totals_by": {"table": TABLE, "errors": ERRORS}, "total_errors": {"table": TABLE, "day": DAY},
        "course_of": {"table": TABLE, "day": DAY}, "first_off": {"table": TABLE, "day": DAY},
        "is_day": {"table": TABLE, "value": DAY, "kept": True},
    },
    "journal": {"Journal": {"disk": Disk((0,) * 50)}},
    "pieces": {
        "pieces_of": {"table": TABLE}, "piece_totals": {"table": TABLE, "piece": (0, 1, 2)},
        "piece_kinds": {"table": TABLE, "piece": (0, 1, 2)}, "piece_table": {"table": TABLE, "piece": (0, 1, 2)},
    },
    "reaches": {
        "ground_of": {"table": TABLE}, "post_way": {"table": TABLE, "one": 0, "other": 3},
        "distance": {"table": TABLE, "one": 0, "other": 3}, "is_post_way": {"table": TABLE, "posts": (0, 1), "totals": (0,)},
        "farthest": {"table": TABLE}, "lines_that_tell": {"table": TABLE},
    },
    "reckonings": {
        "is_reckoning": {"table": TABLE, "value": (1, 0, 1)}, "total_reckoning": {"table": TABLE, "total": 1},
        "is_beyond": {"reckoning": (1, 2)}, "agreements": {"one": (1, 0), "other": (1, 1)},
        "clashes": {"one": (1, 0), "other": (-1, 1)}, "difference_of": {"one": (1, 0), "other": (1, 1)},
        "class_errors": {"table": TABLE, "errors": ERRORS},
        "reckoned": {"table": TABLE, "reckoning": (1, 0, 2), "errors": ERRORS},
        "is_off": {"table": TABLE, "reckoning": (1, 0, 2), "errors": ERRORS},
    },
    "ties": {
        "ties": {"table": TABLE}, "tie_way": {"table": TABLE, "one": 0, "other": 2},
        "is_tie_way": {"table": TABLE, "value": ((0, 1), (0,))}, "has_lone": {"table": TABLE, "piece": (0, 1, 2)},
    },
    "wideparts": {
        "parts_of_total": {"table": TABLE, "colours": (1, -1, 1), "total": 0},
        "are_parts": {"table": TABLE, "colours": (1, -1, 1), "total": 0, "value": ((0, 1),)},
    },
    "attacks": {
        "is_attack_from": {"table": TABLE, "errors": ERRORS, "value": TREE}, "is_attack": {"table": TABLE, "value": TREE},
        "height_of": {"attack": TREE}, "count_lines": {"attack": TREE}, "attack_day": {"attack": TREE, "ups": (1,)},
        "beaten_total": {"attack": TREE, "ups": (1,)}, "mirrored": {"attack": TREE},
        "shortened": {"table": TABLE, "errors": ((1, 2), (1, 2), (0, 1)), "attack": TREE},
    },
    "begun": {
        "no_starts": {"table": TABLE}, "counted_errors": {"table": TABLE, "starts": ((0, 1),) * 4, "errors": ERRORS},
        "begin_total": {"table": TABLE, "starts": ((0, 1),) * 4, "errors": ERRORS, "total": (0, 1)},
        "starts_behind": {"table": TABLE, "places": (0, 1, 2, 3), "day": DAY},
        "is_begun_day": {"table": TABLE, "places": (0, 1, 2, 3), "value": DAY},
    },
    "commands": {
        "is_command": {"value": ("drop", 1)}, "read_commands": {"text": "drop 1\nerrors"},
        "show_command": {"command": ("drop", 1)}, "show_commands": {"commands": (("drop", 1),)},
    },
    "derivations": {
        "is_derivation": {"table": TABLE, "value": STEPS}, "reckonings_along": {"table": TABLE, "derivation": STEPS},
        "derived_by": {"table": TABLE, "derivation": STEPS}, "count_differences": {"derivation": STEPS},
        "turned_derivation": {"derivation": STEPS},
        "joined_derivations": {"one": STEPS[:1], "other": STEPS[1:2], "number": 1}, "needed_steps": {"derivation": STEPS},
    },
    "games": {
        "can_keep": {"table": TABLE, "fractions": (HALF,), "length": 2},
        "can_keep_from": {"table": TABLE, "errors": ERRORS, "fractions": (HALF,), "length": 2},
        "can_keep_told": {"table": TABLE, "errors": ERRORS, "sequence": (0, 1), "fractions": (HALF,)},
        "kept_days": {"table": TABLE, "lines": LINES},
    },
    "goals": {
        "total_wholes": {"table": TABLE, "day": DAY}, "near_goal": {"table": TABLE, "lines": LINES},
        "is_goal_day": {"table": TABLE, "lines": LINES, "goal": (None,) * 4, "value": DAY, "kept": True},
    },
    "knots": {
        "Knot": {"word": "three", "at": 0, "totals": (0, 1)}, "parted": {"table": TABLE, "total": 0, "one": 1, "other": 2},
        "parting_total": {"table": TABLE, "one": 0, "other": 2}, "three_in": {"table": TABLE, "total": 0},
        "three_totals": {"table": TABLE}, "partings_into_three": {"table": TABLE, "total": 0}, "odd_ring": {"table": TABLE},
        "is_knot": {"table": TABLE, "value": Knot("ring", (0, 1, 2), (0, 1, 2))},
    },
    "levels": {"levels_of": {"table": TABLE}, "least_beyond": {"table": TABLE}},
    "sequences": {
        "closures_back": {"table": TABLE, "sequence": (0, 2, 0)}, "is_kept": {"table": TABLE, "sequence": (0, 2, 0)},
        "lost_line": {"table": TABLE, "sequence": (0, 1, 2, 0)},
    },
}
METHODS = {
    Disk: {"look": ["at"], "put": ["at", "octet"], "flush": [], "events": []},
    Journal: {"records": [], "write": ["record"], "drop": ["many"], "renew": ["records"]},
    Table: {"__eq__": ["other"]},
}


def every_call():
    """All functions and classes, with their arguments."""
    for file, calls in CALLS.items():
        module = importlib.import_module("centsatonce." + file)
        for name, named in calls.items():
            yield module, name, named


def told_by(value):
    """What tells a result: its attributes, if it is an object of the package."""
    if isinstance(value, tuple):
        return tuple(told_by(item) for item in value)
    if isinstance(value, (Table, Knot, ValueError)):
        return value.__class__.__name__, told_by(tuple(vars(value).items()))
    if isinstance(value, Disk):
        return value.cells, value.events()
    if isinstance(value, Journal):
        return value.records()
    return value


class Interface(unittest.TestCase):

    def test_defined_in_their_files(self):
        for module, name, _ in every_call():
            self.assertEqual(getattr(module, name).__module__, module.__name__, name)

    def test_parameters(self):
        for module, name, named in every_call():
            if named is None:
                continue
            parameters = inspect.signature(getattr(module, name)).parameters
            self.assertEqual(list(parameters), list(named), name)
            for parameter in parameters.values():
                default = True if parameter.name == "kept" else inspect.Parameter.empty
                self.assertIs(parameter.default, default, name)

    def test_methods(self):
        for own, methods in METHODS.items():
            for name, parameters in methods.items():
                self.assertIn(name, vars(own))
                self.assertEqual(list(inspect.signature(vars(own)[name]).parameters)[1:], parameters)

    def test_no_class_is_derived(self):
        for own in (Table, Knot, Disk, Journal):
            self.assertEqual(own.__bases__, (object,))


class Calls(unittest.TestCase):

    def test_by_position_and_by_name(self):
        for module, name, named in every_call():
            if named is None:
                continue
            call = getattr(module, name)
            by_place = told_by(call(*named.values()))
            backwards = dict(reversed(list(named.items())))
            self.assertEqual(told_by(call(**named)), by_place, name)
            self.assertEqual(told_by(call(**backwards)), by_place, name)

    def test_no_argument_is_changed(self):
        for module, name, named in every_call():
            if named is None:
                continue
            before = copy.deepcopy([told_by(value) for value in named.values()])
            getattr(module, name)(**named)
            self.assertEqual([told_by(value) for value in named.values()], before, name)

    def test_equal_arguments_give_equal_results(self):
        for module, name, named in every_call():
            if named is None:
                continue
            call = getattr(module, name)
            first, second = call(**named), call(**copy.deepcopy(named))
            self.assertEqual(told_by(first), told_by(second), name)

    def test_results_are_tuples_and_plain_values(self):
        for module, name, named in every_call():
            if named is not None and name not in ("Disk", "Journal"):
                self.check_plain(told_by(getattr(module, name)(**named)), name)

    def check_plain(self, value, name):
        if isinstance(value, tuple):
            for item in value:
                self.check_plain(item, name)
        else:
            self.assertIn(type(value), (int, bool, str, type(None)), name)

    def test_attributes_are_the_arguments(self):
        for module, name, named in every_call():
            if named is not None and inspect.isclass(getattr(module, name)):
                made = getattr(module, name)(**named)
                for parameter, value in named.items():
                    self.assertIs(getattr(made, parameter), value)

    def test_lists_that_a_class_is_given_may_be_kept(self):
        some = [0, 1]
        self.assertEqual(Knot("ring", some, some).at, some)
        self.assertEqual(some, [0, 1])


if __name__ == "__main__":
    unittest.main()
