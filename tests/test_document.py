"""Tests that all examples of the document run as they are written there, in their order; examples.txt holds them."""

import pathlib
import unittest

from slotwise import errors

EXAMPLES = pathlib.Path(__file__).resolve().parent / "examples.txt"


def examples():
    """The examples in order, triples of the heading, the code and what is expected, empty for nothing."""
    heading = ""
    found = []
    for line in EXAMPLES.read_text(encoding="utf-8").splitlines():
        if line.startswith("# "):
            heading = line[2:]
        elif line.startswith(">>> "):
            found.append((heading, line[4:], ""))
        elif line:
            # What is expected stands on one line.
            assert found[-1][2] == ""
            found[-1] = (heading, found[-1][1], line)
    return found


class TestExamples(unittest.TestCase):
    def test_examples(self):
        # Later examples use what earlier ones have named.
        names = {}
        for heading, code, expected in examples():
            with self.subTest(heading=heading, code=code):
                if expected.startswith("raises "):
                    with self.assertRaises(getattr(errors, expected.removeprefix("raises "))):
                        exec(code, names)
                elif expected:
                    self.assertEqual(repr(eval(code, names)), expected)
                else:
                    self.run_silently(code, names)

    def run_silently(self, code, names):
        """Run an example that shows nothing: a statement, or an expression whose value is None."""
        try:
            compiled = compile(code, "example", "eval")
        except SyntaxError:
            exec(code, names)
        else:
            self.assertIsNone(eval(compiled, names))

    def test_each_module_has_examples(self):
        headings = {heading for heading, _, _ in examples()}
        modules = {path.name for path in (EXAMPLES.parent.parent / "slotwise").glob("*.py")}
        without = {"slotwise/" + name for name in modules} - headings
        self.assertEqual(without, {"slotwise/__init__.py", "slotwise/errors.py", "slotwise/families.py"})
        self.assertGreater(len(examples()), 200)


if __name__ == "__main__":
    unittest.main()
