"""README.md: its examples are as they are told there."""

import ast
import pathlib
import re
import unittest

README = pathlib.Path(__file__).resolve().parent.parent / "README.md"


class ReadmeTest(unittest.TestCase):
    def test_examples(self):
        told = 0
        for code in re.findall("```python\n(.*?)```", README.read_text(encoding="utf-8"), re.DOTALL):
            names = {}
            for line in code.split("\n"):
                call, _, comment = line.partition("#")
                if re.match(r"(from|[a-z, ]+ = )", call):
                    exec(call, names)
                elif call.strip():
                    self.look_at(eval(call, names), comment.strip())
                    told += 1
        self.assertGreater(told, 10)

    def look_at(self, result, comment):
        if ".." not in comment:
            text = comment if comment[0] == '"' else re.match(r"[^:]*", comment).group()
            self.assertEqual(result, ast.literal_eval(text))

    def test_how_to_run_the_tests(self):
        self.assertIn("python3 -m unittest discover -s tests", README.read_text(encoding="utf-8"))


if __name__ == "__main__":
    unittest.main()
