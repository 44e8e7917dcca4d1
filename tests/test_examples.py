"""The examples of the document's interface, as they are written there.

Each file in the folder examples holds those of one module, with an empty line
between two of them: rows of Python behind >>>, then the value of the last row, or
"raises" and an error with its attributes.
"""

import os
import unittest

FOLDER = os.path.join(os.path.dirname(os.path.abspath(__file__)), "examples")
MODULES = ["books", "codec", "counting", "letters", "live", "notation", "prolonging", "watching"]


def outcome(rows):
    """What the last row of an example gives, in the words of the document."""
    names = {}
    for row in rows[:-1]:
        exec(row, names)
    try:
        return repr(eval(rows[-1], names))
    except ValueError as error:
        told = ", ".join(f"{name}={value!r}" for name, value in vars(error).items())
        return f"raises {type(error).__name__}" + (f"({told})" if told else "")


class Examples(unittest.TestCase):

    def check(self, name):
        with open(os.path.join(FOLDER, name + ".txt"), encoding="utf-8") as file:
            blocks = file.read().strip().split("\n\n")
        for block in blocks:
            *rows, expected = block.split("\n")
            with self.subTest(example=block):
                self.assertTrue(rows and all(row.startswith(">>> ") for row in rows))
                self.assertEqual(outcome([row[4:] for row in rows]), expected)

    def test_examples(self):
        for name in MODULES:
            self.check(name)

    def test_each_file_of_examples_is_run(self):
        self.assertEqual(sorted(os.listdir(FOLDER)), sorted(name + ".txt" for name in MODULES))


if __name__ == "__main__":
    unittest.main()
