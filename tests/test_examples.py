"""The examples of the document's interface, which stand in tests/examples as they stand there."""

import ast
import pathlib
import re
import unittest

from typefault import errors

FOLDER = pathlib.Path(__file__).parent / "examples"
MODULES = ["apart", "benches", "cases", "codec", "costs", "daybooks", "far", "keyboards", "machines", "notation",
           "reveals", "several", "sheets", "tables", "texts", "trials", "wears", "working"]


def blocks_of(path):
    """Each block is a list of statements, of which the last is an expression, and what it gives."""
    blocks = []
    for text in path.read_text(encoding="utf-8").strip().split("\n\n"):
        lines = text.split("\n")
        blocks.append(([line.removeprefix(">>> ") for line in lines[:-1]], lines[-1]))
    return blocks


class ExamplesTest(unittest.TestCase):
    def check_block(self, statements, expected):
        names = {}
        raised = re.fullmatch(r"raises (\w+)\((.*)\)", expected)
        for statement in statements[:-1]:
            exec(statement, names)
        if not raised:
            self.assertEqual(repr(eval(statements[-1], names)), expected)
            return
        with self.assertRaises(errors.WriterError) as caught:
            eval(statements[-1], names)
        self.assertIs(type(caught.exception), getattr(errors, raised[1]))
        for keyword in ast.parse(f"dict({raised[2]})", mode="eval").body.keywords:
            expected_value = ast.literal_eval(keyword.value)
            self.assertEqual(getattr(caught.exception, keyword.arg), expected_value)

    def test_examples(self):
        paths = sorted(FOLDER.glob("*.txt"))
        self.assertEqual([path.stem for path in paths], MODULES)
        for path in paths:
            for statements, expected in blocks_of(path):
                with self.subTest(file=path.name, expression=statements[-1]):
                    self.check_block(statements, expected)
