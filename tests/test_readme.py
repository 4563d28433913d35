"""The examples of README.md tell what stands behind them."""

import ast
import os
import re
import unittest

README = os.path.join(os.path.dirname(os.path.dirname(os.path.abspath(__file__))), "README.md")


def examples():
    """Each row of Python in README.md, and what is told of it, or None."""
    with open(README, encoding="utf-8") as file:
        text = file.read()
    for block in re.findall(r"```python\n(.*?)```", text, re.S):
        for row in block.splitlines():
            code, _, told = row.partition("#")
            if code.strip():
                yield code.strip(), told.strip()


def told_value(told):
    """The value at the begin of a remark, its explanation left out."""
    for end in range(len(told), 0, -1):
        try:
            return ast.literal_eval(told[:end])
        except (SyntaxError, ValueError):
            continue
    raise ValueError(told)


class Examples(unittest.TestCase):
    def test_each(self):
        names, many = {}, 0
        for code, told in examples():
            if told:
                self.assertEqual(eval(code, names), told_value(told), code)
                many += 1
            else:
                exec(code, names)
        self.assertGreater(many, 20)


if __name__ == "__main__":
    unittest.main()
