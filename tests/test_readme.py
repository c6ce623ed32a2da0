"""The examples of README.md answer what it says."""

import pathlib
import re
import unittest

README = pathlib.Path(__file__).parent.parent / "README.md"


class Readme(unittest.TestCase):
    def test_examples(self):
        blocks = re.findall(r"```python\n(.*?)```", README.read_text(), re.DOTALL)
        self.assertTrue(blocks)
        for block in blocks:
            names = {}
            for line in block.splitlines():
                asked, mark, answer = line.partition("  # ")
                if not mark:
                    exec(line, names)
                    continue
                self.assertEqual(repr(eval(asked, names)), answer.split(": ")[0], asked)


if __name__ == "__main__":
    unittest.main()
