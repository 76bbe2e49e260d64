"""What the interface lists is defined, with its arguments, in the file that it names."""

import ast
import pathlib
import unittest

FOLDER = pathlib.Path(__file__).resolve().parent.parent / "thinskin"

FUNCTIONS = {
    "space.py": {
        "is_place": ["thing"],
        "less_by": ["one", "other"],
        "cross_of": ["one", "other"],
        "dot_of": ["one", "other"],
        "fraction_of": ["n", "d"],
        "compare_two": ["one", "other"],
        "normal_of": ["a", "b", "c"],
    },
    "foot.py": {
        "foot_on": ["flake", "vector"],
        "square_to": ["flake", "vector"],
        "shows_foot": ["flake", "vector", "thing"],
    },
    "skins.py": {
        "is_skin": ["thing"],
        "fault_in": ["corners", "triangles"],
    },
    "nearby.py": {
        "corners_of": ["skin"],
        "ties_of": ["skin"],
        "rim_ties": ["skin"],
        "star_of": ["skin", "corner"],
        "fan_of": ["skin", "corner"],
    },
    "shape.py": {
        "parts_of": ["skin"],
        "rims_of": ["skin"],
        "handles_of": ["skin"],
        "shape_of": ["skin"],
    },
    "marks.py": {
        "marked_ties": ["skin"],
        "kind_of": ["skin", "corner"],
        "lines_of": ["skin"],
    },
    "drawing.py": {
        "bar_of": ["skin", "stay", "b", "a"],
        "drawn_skin": ["skin", "stay", "b", "a"],
        "put_back": ["skin", "step"],
        "shows_step": ["skin", "step", "other"],
    },
    "prices.py": {
        "planes_of": ["skin"],
        "price_at": ["planes", "place"],
        "prices_of": ["skin", "stay", "planes"],
    },
    "far.py": {
        "nearest_of": ["skin", "vector"],
        "shows_nearest": ["skin", "vector", "thing"],
        "farthest_of": ["one", "other"],
        "bounds_of": ["one", "other", "halvings"],
        "both_bounds": ["one", "other", "halvings"],
        "is_within": ["one", "other", "halvings", "square"],
    },
    "fronts.py": {
        "touched_by": ["step"],
        "leans_of": ["steps"],
        "is_closed": ["steps", "choice"],
        "with_leans": ["steps", "choice"],
        "without_these": ["steps", "choice"],
        "mixed_skin": ["first", "steps", "choice"],
    },
    "views.py": {
        "part_in": ["skin", "box"],
        "barred_by": ["first", "steps", "wish"],
        "choice_for": ["first", "steps", "wishes"],
        "view_for": ["first", "steps", "wishes"],
    },
    "cutting.py": {
        "regions_of": ["skin"],
        "cut_pieces": ["skin"],
        "joined_skin": ["corners", "pieces"],
    },
    "texts.py": {
        "skin_text": ["skin"],
        "read_skin": ["text"],
        "steps_text": ["steps"],
        "read_steps": ["first", "stay", "text"],
    },
    "desk.py": {
        "answers_to": ["text"],
    },
    "carry.py": {
        "weights_of": ["spot"],
        "least_spot": ["skin", "spot"],
        "is_spot": ["skin", "thing"],
        "place_of": ["skin", "spot"],
        "carried_on": ["skin", "step", "spot"],
        "brought_back": ["skin", "step", "spot"],
        "carried_all": ["first", "steps", "choice", "spot"],
        "brought_all": ["first", "steps", "choice", "spot"],
    },
}
CLASSES = {
    "errors.py": ["SkinError", "Barred", "NoStep", "AtEnd", "NotClosed", "NotYet", "NoJoin", "BadRow", "NoSkin"],
}
METHODS = {
    ("thinner.py", "Thinner"): {
        "__init__": ["self", "skin", "stay"],
        "first_skin": ["self"],
        "skin_now": ["self"],
        "staying": ["self"],
        "bar_to": ["self", "b", "a"],
        "draw_to": ["self", "b", "a"],
        "prices_now": ["self"],
        "least_now": ["self"],
        "steps_done": ["self"],
        "go_back": ["self"],
        "go_forth": ["self"],
        "steps_undone": ["self"],
        "thin_to": ["self", "most"],
        "make_twin": ["self"],
    },
    ("front.py", "Front"): {
        "__init__": ["self", "first", "steps"],
        "do_step": ["self", "k"],
        "undo_step": ["self", "k"],
        "skin_now": ["self"],
        "steps_in": ["self"],
        "can_do": ["self"],
        "can_undo": ["self"],
        "make_twin": ["self"],
    },
}


def defined_in(name, kind):
    tree = ast.parse((FOLDER / name).read_text("ascii"))
    return {node.name: node for node in tree.body if isinstance(node, kind)}


class Interface(unittest.TestCase):
    def test_functions(self):
        for name, wanted in FUNCTIONS.items():
            found = defined_in(name, ast.FunctionDef)
            for function, arguments in wanted.items():
                self.assertIn(function, found, name)
                self.assertEqual([arg.arg for arg in found[function].args.args], arguments, function)

    def test_classes(self):
        for name, wanted in CLASSES.items():
            self.assertEqual(list(defined_in(name, ast.ClassDef)), wanted, name)

    def test_methods(self):
        for (name, owner), wanted in METHODS.items():
            body = defined_in(name, ast.ClassDef)[owner].body
            found = {node.name: node for node in body if isinstance(node, ast.FunctionDef)}
            for method, arguments in wanted.items():
                self.assertIn(method, found, owner)
                self.assertEqual([arg.arg for arg in found[method].args.args], arguments, method)


if __name__ == "__main__":
    unittest.main()
