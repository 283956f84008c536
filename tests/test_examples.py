"""Each example of the document, with the answer that stands there."""

import importlib
import os
import unittest

import spiralsays

HERE = os.path.dirname(os.path.abspath(__file__))
PACKAGE = os.path.dirname(os.path.abspath(spiralsays.__file__))


def names_of_all_parts():
    """Examples leave imports out: all names of all modules."""
    names = {}
    for file in sorted(os.listdir(PACKAGE)):
        if file.endswith(".py") and file != "__init__.py":
            module = importlib.import_module(f"spiralsays.{file[:-3]}")
            for name, value in vars(module).items():
                if getattr(value, "__module__", None) == module.__name__:
                    names[name] = value
    return names


def examples():
    """Triples: the part, what is told, the answer (None for an assignment)."""
    with open(os.path.join(HERE, "examples.txt"), encoding="utf-8") as file:
        lines = file.read().splitlines()
    found, part = [], None
    for line in lines:
        if line.startswith("# "):
            part = line[2:]
        elif line.startswith(">>> "):
            found.append([part, line[4:], None])
        elif line:
            found[-1][2] = line
    return found


class Examples(unittest.TestCase):
    def test_examples(self):
        names = names_of_all_parts()
        for part, told, answer in examples():
            with self.subTest(part=part, told=told):
                if answer is None:
                    exec(told, names)
                elif answer.startswith("raises "):
                    self.check_error(told, answer[len("raises "):], names)
                else:
                    self.assertEqual(repr(eval(told, names)), answer)

    def check_error(self, told, answer, names):
        due = eval(answer, names)
        try:
            eval(told, names)
        except ValueError as found:
            self.assertIs(type(found), due if isinstance(due, type) else type(due))
            if not isinstance(due, type):
                self.assertEqual(vars(found), vars(due))
        else:
            self.fail(f"{answer} is not raised")

    def test_there_are_some_of_each_part(self):
        parts = [part for part, _, answer in examples() if answer is not None]
        for part in (
            "ratios papers steps pairs tables fractions stems nets laid stem_nets spirals check_stems rows fits rises "
            "sayings words several tight check_words net_words map_pieces check_nets roads "
            "falling turns check_roads windows counted cuts told_counts check_counts heights ties "
            "tied_fits tied_counts orders check_heights carried mirrored thinned rolled check_new "
            "clashes strikes measures offers check_choice paper_texts reader desk"
        ).split():
            self.assertIn(part, parts)


if __name__ == "__main__":
    unittest.main()
