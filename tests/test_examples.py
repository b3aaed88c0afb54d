"""The examples of the document, as they stand there, in examples.txt, and those of README.md."""

import pathlib
import unittest

from allzooms import errors

EXAMPLES = pathlib.Path(__file__).with_name("examples.txt")
README = pathlib.Path(__file__).resolve().parent.parent / "README.md"


class ExamplesTest(unittest.TestCase):
    def test_examples_of_the_document(self):
        self.assertEqual(self.held_all(EXAMPLES.read_text().splitlines()), 74)

    def test_examples_of_the_readme(self):
        blocks = README.read_text().split("```")[1::2]
        self.assertEqual(self.held_all("".join(blocks).splitlines()), 8)

    def held_all(self, lines):
        """Holds all examples, one behind the other; how many tell what comes of them."""
        names = {}
        waiting = None
        many = 0
        for line in [*lines, "# end"]:
            if not line:
                continue
            if line.startswith((">>> ", "#")):
                if waiting is not None:
                    exec(waiting, names)
                waiting = line[4:] if line.startswith(">>> ") else None
                continue
            with self.subTest(waiting):
                self.held(waiting, line, names)
            waiting = None
            many += 1
        return many

    def held(self, code, told, names):
        """Holds what comes of a line of code against what the document tells."""
        if not told.startswith("raises "):
            self.assertEqual(repr(eval(code, names)), told)
            return
        error = eval(told.removeprefix("raises "), vars(errors))
        with self.assertRaises(type(error)) as caught:
            eval(code, names)
        self.assertEqual(vars(caught.exception), vars(error))


if __name__ == "__main__":
    unittest.main()
