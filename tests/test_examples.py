"""The examples of the document, as they stand there: one behind the other, in examples.txt."""

import pathlib
import unittest

EXAMPLES = pathlib.Path(__file__).resolve().parent / "examples.txt"
FRONT = ">>> "


def rows():
    """Return the list of the pairs (statement, what it is to give); None for one that gives nothing."""
    lines = [line for line in EXAMPLES.read_text(encoding="ascii").split("\n") if line]
    found = []
    for line, following in zip(lines, lines[1:] + [FRONT]):
        if line.startswith(FRONT):
            found.append((line[len(FRONT):], None if following.startswith(FRONT) else following))
    return found


class ExamplesTest(unittest.TestCase):
    def test_examples(self):
        names = {}
        told = 0
        for statement, due in rows():
            if due is None:
                exec(statement, names)
                continue
            told = told + 1
            if due.startswith("raises "):
                self.check_error(statement, due[len("raises "):], names)
            else:
                self.assertEqual(repr(eval(statement, names)), due, statement)
        self.assertEqual(told, 34)

    def check_error(self, statement, due, names):
        """Whether the statement raises an error of this class with these fields, in this order."""
        try:
            found = eval(statement, names)
        except ValueError as error:
            fields = ", ".join([f"{name}={thing!r}" for name, thing in vars(error).items()])
            self.assertEqual(f"{error.__class__.__name__}({fields})", due, statement)
        else:
            self.fail((statement, found))


if __name__ == "__main__":
    unittest.main()
