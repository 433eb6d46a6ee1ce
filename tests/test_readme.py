import contextlib
import io
import re
import unittest
from pathlib import Path

README = Path(__file__).resolve().parent.parent / "README.md"


class Example(unittest.TestCase):
    def test_it_prints_what_it_says(self):
        code = re.search(r"```python\n(.*?)```", README.read_text(), re.DOTALL).group(1)
        told = re.findall(r"^print.*# (.*)$", code, re.MULTILINE)
        printed = io.StringIO()
        with contextlib.redirect_stdout(printed):
            exec(code, {})
        self.assertEqual(len(told), 3)
        self.assertEqual(printed.getvalue().splitlines(), told)


if __name__ == "__main__":
    unittest.main()
