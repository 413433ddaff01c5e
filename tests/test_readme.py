"""The example of README.md answers what it says there."""
import pathlib
import re
import unittest

from calls import said

README = pathlib.Path(__file__).resolve().parent.parent / "README.md"


class Example(unittest.TestCase):
    def test_each_row_answers_what_stands_behind_it(self):
        code = README.read_text("utf-8").split("```python\n")[1].split("```")[0]
        names = {}
        exec(code, names)
        for call, told in re.findall(r"^(\w+\(.*\)) +# (\".*\")(?:, as such numbers)?$", code, re.M):
            given = eval(call, names)
            self.assertEqual(given if isinstance(given, str) else said(given), eval(told), call)
            names.setdefault("asked", []).append(call.split("(")[0])
        self.assertEqual(names["asked"], ["bytes", "worst", "within", "cost", "worth"])
        self.assertEqual(names["check"](names["text"]), [3])
        self.assertEqual(names["answer"][:4], [21, 104, 111, 109])


if __name__ == "__main__":
    unittest.main()
