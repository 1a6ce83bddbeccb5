"""The interface: each name stands in its file, with its parameters and its methods."""

import importlib
import inspect
import unittest

FUNCTIONS = {
    "beds": {"beside": "place"},
    "ends": {
        "rounds_of": "bed most", "settle": "bed most", "first_run": "bed most", "ends_of": "bed most",
        "is_parting": "bed paper", "is_one_end": "bed paper", "scar_of": "bed hole", "healing_of": "bed",
        "is_scar": "bed paper", "is_healing": "bed paper"},
    "sweeps": {
        "letters_of": "sweeps", "states_of": "sweeps direction", "run": "sweeps most", "fed": "sweeps words",
        "parted": "one two", "alike": "sweeps direction", "least": "sweeps"},
    "programs": {"is_over": "program order", "moments": "program values most"},
    "compiling": {
        "first_row": "program values", "values_of": "row", "sweeps_of": "program values", "steps_told": "program rows"},
    "blocks": {
        "outcome": "sweeps label", "labels_of": "sweeps", "tiles_of": "sweeps", "bed_of": "sweeps",
        "label_at": "bed column row", "shown": "sweeps bed"},
    "healing": {
        "times": "picture bed", "rounds_left": "picture bed", "hole_of": "cells", "is_inner": "picture column row",
        "weight_of": "chain", "heaviest": "picture cells", "kept_cells": "sweeps bed", "wash": "sweeps bed"},
    "shapes": {
        "lengths_of": "sweeps most", "tower": "rows", "square": "rows", "stairs": "steps", "shaped": "lengths"},
    "valves": {
        "cells_of": "grid", "places_of": "k", "bonds_of": "k", "right_tiles": "valves",
        "pair_at": "valves bed column row", "local_wash": "valves bed", "turning_run": "valves column row pair"},
    "judges": {
        "first_wrong": "sweeps most history", "pairs_behind": "sweeps most history",
        "comes_back": "sweeps most history", "washed_back": "sweeps most history"},
    "story": {"played": "story", "told": "story", "drawn": "world"},
}

CLASSES = {
    "errors": {
        "BadText": "line column", "BadNumber": "what number", "BadName": "name", "BadTile": "tile",
        "BadPlace": "place", "NoName": "name", "TakenName": "name", "NotThere": "place", "Taken": "place",
        "Loose": "place bonds", "TooMany": "what many limit", "NotKept": "promise witness",
        "NothingToUndo": "", "NothingToRedo": ""},
    "beds": {"Tile": "name west south east north", "TileSet": "tiles", "Bed": "tile_set seed_place seed_name"},
    "ends": {"OneEnd": "comings walls", "Parting": "one two", "Heals": "comings", "Scar": "hole comings"},
    "sweeps": {"Sweeps": "first begin steps turns"},
    "programs": {"Program": "text"},
    "blocks": {"Picture": "sweeps most"},
    "valves": {"Grid": "word states rule", "Valves": "grid k"},
    "worlds": {"World": "sweeps most", "GridWorld": "grid k"},
    "story": {"Story": "text"},
    "desk": {"Desk": "text"},
}

WORLD = {
    "come": "place name", "slip": "place name", "cut": "places", "wash": "", "grow": "many", "rounds": "many",
    "wrong": "", "lacking": "", "rows": "", "is_whole": ""}

METHODS = {
    "beds": {
        "Tile": {"glue_at": "side"},
        "TileSet": {"tile_of": "name", "has": "name", "names": "", "with_glue": "side glue"},
        "Bed": {
            "at": "place", "places": "", "pairs": "", "how_many": "", "bonds": "place name", "fitting": "place",
            "may_come_at": "place", "may_come": "", "come": "place name", "slip": "place name", "cut": "places",
            "twin": ""}},
    "blocks": {"Picture": {"due": "place", "lacking": "bed", "strange": "bed"}},
    "worlds": {"World": WORLD, "GridWorld": {**WORLD, "bears": ""}},
    "desk": {
        "Desk": {
            "lines": "", "item_names": "", "get_story": "name", "get_world": "name", "put": "text",
            "edit": "name number text", "add": "name text", "drop": "name", "rename": "name new", "keep": "promise",
            "release": "promise", "promises": "", "holds": "promise", "broken": "", "undo": "", "redo": "",
            "attempt": "action", "trial": "action"}},
}


def module_of(name):
    return importlib.import_module("tilesregrow." + name)


def parameters(function):
    return [name for name in inspect.signature(function).parameters if name != "self"]


class InterfaceTest(unittest.TestCase):
    def test_functions(self):
        for module, functions in FUNCTIONS.items():
            for name, told in functions.items():
                function = getattr(module_of(module), name)
                self.assertEqual(parameters(function), told.split(), name)
                self.assertEqual(function.__module__, "tilesregrow." + module)

    def test_classes(self):
        for module, classes in CLASSES.items():
            for name, told in classes.items():
                kind = getattr(module_of(module), name)
                self.assertEqual(parameters(kind), told.split(), name)
                self.assertEqual(kind.__module__, "tilesregrow." + module)

    def test_methods_are_defined_in_their_classes(self):
        for module, classes in METHODS.items():
            for name, methods in classes.items():
                kind = getattr(module_of(module), name)
                for method, told in methods.items():
                    self.assertIn(method, vars(kind))
                    self.assertEqual(parameters(vars(kind)[method]), told.split(), method)

    def test_the_package_is_one_folder_that_can_be_imported(self):
        self.assertTrue(module_of("beds").__file__.replace("\\", "/").endswith("/tilesregrow/beds.py"))


if __name__ == "__main__":
    unittest.main()
