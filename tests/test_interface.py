import importlib
import inspect
import unittest

LISTED = {
    "fracs": {
        "is_fraction": 1, "fraction": 2, "plus": 2, "minus": 2, "times": 2, "over": 2, "is_less": 2, "floor_of": 1,
    },
    "tempo": {"is_tempo": 1, "length_of": 2, "moment_of": 2, "place_of": 2},
    "sheets": {"is_take": 1, "is_shape": 1, "is_piece": 1, "fault_of": 1},
    "heard": {
        "heard": 2, "content_at": 3, "level_at": 3, "sound_at": 3, "lane_at": 3, "heard_at": 2, "runs_of": 2, "played": 4,
    },
    "grains": {"grains_of": 2, "loudest": 2, "loudest_lane": 2},
    "rows": {"rows_heard": 3, "unlike": 4},
    "cutting": {"cut": 4, "glue": 3},
    "shaping": {"stretch_to": 3, "turn_over": 2, "fade": 4, "louder": 3},
    "lanes": {"new_lane": 2, "drop_lane": 2, "gain_to": 3, "hush": 3, "lane_to": 3, "new_take": 2, "drop_take": 2},
    "paces": {"pace": 5, "rest_from": 3},
    "laying": {"lay": 3, "lift": 2, "move": 3, "shift": 3, "raise_to": 3, "trim": 4},
    "ripples": {"cut_out": 5, "open_gap": 5},
    "deeds": {"done": 3},
    "changes": {"changes": 2},
    "texts": {"show_sheet": 1, "read_sheet": 1},
    "deedtexts": {"show_deed": 1, "read_deed": 1},
    "boardtexts": {"show_board": 1, "read_board": 1},
}
CLASSES = {
    "boards": {"Board": {
        "do": 1, "undo": 1, "undo_all": 1, "again": 1, "go": 1, "between": 2, "leans": 1, "sheet": 0, "deeds": 0, "keep": 1,
        "drop": 1, "versions": 0,
    }},
    "desk": {"Desk": {"say": 1}},
}


class Interface(unittest.TestCase):
    def test_each_function_is_defined_in_its_file(self):
        for file, functions in LISTED.items():
            module = importlib.import_module("beatlanes." + file)
            for name in functions:
                found = getattr(module, name)
                self.assertTrue(inspect.isfunction(found))
                self.assertEqual((found.__module__, found.__name__), ("beatlanes." + file, name))

    def test_each_function_takes_so_many_arguments_by_their_places(self):
        for file, functions in LISTED.items():
            module = importlib.import_module("beatlanes." + file)
            for name, many in functions.items():
                inspect.signature(getattr(module, name)).bind(*range(many))
                with self.assertRaises(TypeError):
                    inspect.signature(getattr(module, name)).bind(*range(many + 1))

    def test_each_class_is_defined_in_its_file_and_each_method_in_it(self):
        for file, classes in CLASSES.items():
            module = importlib.import_module("beatlanes." + file)
            for name, methods in classes.items():
                found = getattr(module, name)
                self.assertTrue(inspect.isclass(found))
                self.assertEqual((found.__module__, found.__name__), ("beatlanes." + file, name))
                made = found()
                for method, many in methods.items():
                    self.assertTrue(inspect.isfunction(vars(found)[method]))
                    inspect.signature(getattr(made, method)).bind(*range(many))
                    with self.assertRaises(TypeError):
                        inspect.signature(getattr(made, method)).bind(*range(many + 1))


if __name__ == "__main__":
    unittest.main()
