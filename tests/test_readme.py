"""README.md: its examples hold, and it shows every call."""

import ast
import pathlib
import textwrap
import unittest

from samples import CALLS

README = (pathlib.Path(__file__).resolve().parent.parent / "README.md").read_text()


def example():
    """The indented rows under Use."""
    use = README[README.index("## Use"):README.index("Each answer is")]
    return textwrap.dedent("\n".join(row for row in use.splitlines() if row.startswith("    ")))


class Readme(unittest.TestCase):
    def test_examples(self):
        rows, names, shown = example().splitlines(), {}, set()
        for node in ast.parse(example()).body:
            statement = "\n".join(rows[node.lineno - 1:node.end_lineno])
            if not isinstance(node, ast.Expr):
                exec(statement, names)
                continue
            told = rows[node.end_lineno - 1].split("# ")[1].split("]")[0] + "]"
            self.assertEqual(eval(statement, names), ast.literal_eval(told), statement)
            shown.add(node.value.func.id)
        self.assertEqual(shown, set(CALLS))


if __name__ == "__main__":
    unittest.main()
