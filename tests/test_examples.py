"""The examples of the document, as they stand there, in examples.txt."""

import pathlib
import unittest

from allzooms import errors

EXAMPLES = pathlib.Path(__file__).with_name("examples.txt")


class ExamplesTest(unittest.TestCase):
    def test_examples(self):
        names = {}
        waiting = None
        many = 0
        for line in [*EXAMPLES.read_text().splitlines(), "# end"]:
            if not line:
                continue
            if line.startswith((">>> ", "#")):
                if waiting is not None:
                    exec(waiting, names)
                waiting = line[4:] if line.startswith(">>> ") else None
                continue
            with self.subTest(waiting):
                self.held(waiting, line, names)
            waiting = None
            many += 1
        self.assertEqual(many, 74)

    def held(self, code, told, names):
        """Holds what comes of a line of code against what the document tells."""
        if not told.startswith("raises "):
            self.assertEqual(repr(eval(code, names)), told)
            return
        error = eval(told.removeprefix("raises "), vars(errors))
        with self.assertRaises(type(error)) as caught:
            eval(code, names)
        self.assertEqual(vars(caught.exception), vars(error))


if __name__ == "__main__":
    unittest.main()
