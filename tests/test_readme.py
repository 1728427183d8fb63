"""What README.md shows can be run as it stands."""

import contextlib
import io
import re
import unittest
from pathlib import Path

README = Path(__file__).resolve().parent.parent / "README.md"


class Readme(unittest.TestCase):
    def test_its_code(self):
        code = "\n".join(re.findall(r"```python\n(.*?)```", README.read_text(), re.S))
        told = io.StringIO()
        with contextlib.redirect_stdout(told):
            exec(compile(code, "README.md", "exec"), {})
        self.assertGreaterEqual(len(told.getvalue().splitlines()), code.count("print("))

    def test_all_modules_are_named(self):
        text = README.read_text()
        for path in sorted((README.parent / "movedactors").glob("*.py")):
            if path.stem != "__init__":
                self.assertIn(f"`{path.stem}`", text)


if __name__ == "__main__":
    unittest.main()
