"""The calls that README.md shows answer what it says."""

import pathlib
import re
import unittest

from noughtsets import polynomials

README = pathlib.Path(__file__).resolve().parent.parent / "README.md"


def shown():
    """Each row of the example: the code, and the answer told behind it, if there is one."""
    example = README.read_text(encoding="utf-8").split("```python\n")[1].split("```")[0]
    rows = []
    for line in example.splitlines():
        code, sign, remark = line.partition("#")
        told = re.match(r"\s*(\[[-0-9, ]*\]):", remark)
        if code.strip():
            rows.append((code.strip(), told.group(1) if told else None))
    return rows


class Examples(unittest.TestCase):
    def test_answers(self):
        names = {}
        called = []
        for code, told in shown():
            if told is None:
                exec(code, names)
            else:
                with self.subTest(code):
                    self.assertEqual(str(eval(code, names)), told)
                called.append(code.partition("(")[0])
        self.assertEqual(
            set(called), {"value", "zeros", "reduced", "plus", "times", "least", "room"})

    def test_each_call_is_told(self):
        text = README.read_text(encoding="utf-8")
        for name, arguments in (
                ("value", "p, n, x, f"), ("zeros", "p, n, f"), ("reduced", "p, n, f"), ("plus", "p, n, f, g"),
                ("times", "p, n, f, g"), ("least", "p, n, s"), ("room", "p, n, d")):
            self.assertTrue(callable(getattr(polynomials, name)))
            self.assertIn(f"| `{name}({arguments})` |", text)


if __name__ == "__main__":
    unittest.main()
