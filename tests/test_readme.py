"""The examples of README.md tell what their comments say."""

import ast
import os
import re
import unittest

README = os.path.join(os.path.dirname(os.path.dirname(os.path.abspath(__file__))), "README.md")


def examples():
    with open(README, encoding="utf-8") as file:
        return re.findall(r"```python\n(.*?)```", file.read(), re.DOTALL)


class ReadmeTest(unittest.TestCase):
    def test_examples(self):
        names = {}
        told = 0
        for example in examples():
            for node in ast.parse(example).body:
                code = ast.get_source_segment(example, node)
                if not isinstance(node, ast.Expr):
                    exec(code, names)
                    continue
                value = repr(eval(code, names))
                said = example.split("\n")[node.end_lineno - 1].partition("  # ")[2]
                # Other comments are words about the value.
                if said[:1] in tuple("('0123456789TFN"):
                    told += 1
                    self.assertTrue(said.startswith(value), (code, value))
        self.assertGreater(told, 10)


if __name__ == "__main__":
    unittest.main()
