"""The examples of the README print what stands behind them."""

import contextlib
import io
import pathlib
import re
import unittest

README = pathlib.Path(__file__).resolve().parent.parent / "README.md"


class Examples(unittest.TestCase):
    def test_what_they_print(self):
        names = {}
        blocks = re.findall("```python\n(.*?)```", README.read_text(), re.DOTALL)
        self.assertGreater(len(blocks), 2)
        for block in blocks:
            printed = io.StringIO()
            with contextlib.redirect_stdout(printed):
                exec(block, names)
            expected = re.findall(r"print\(.*\)   # (.*)", block)
            self.assertEqual(printed.getvalue().splitlines(), expected)

    def test_every_module_is_named(self):
        text = README.read_text()
        for path in (README.parent / "unbent").glob("*.py"):
            if path.stem != "__init__":
                self.assertIn(f"`unbent.{path.stem}`", text)


if __name__ == "__main__":
    unittest.main()
