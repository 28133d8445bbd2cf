"""The examples of README.md: each row that tells an answer tells the one that the program gives."""

import ast
import pathlib
import unittest

README = pathlib.Path(__file__).resolve().parent.parent / "README.md"


def example_rows():
    """The rows of code, up to those that run the tests."""
    text = README.read_text(encoding="utf-8").partition("## How to run the tests")[0]
    return [row[4:] if row.startswith("    ") else "" for row in text.splitlines()]


def told_in(row):
    """What the comment of a row tells, ahead of the words behind it."""
    comment = row.partition("# ")[2]
    for end in range(len(comment), 0, -1):
        try:
            return ast.literal_eval(comment[:end].rstrip(":"))
        except (SyntaxError, ValueError):
            continue
    return None


class Examples(unittest.TestCase):
    def test_each_row(self):
        rows = example_rows()
        names = {}
        checked = 0
        for node in ast.parse("\n".join(rows)).body:
            checked += self.carried_out(node, rows, names)
        self.assertGreater(checked, 40)

    def carried_out(self, node, rows, names):
        """Runs a statement; returns how many answers were compared."""
        if isinstance(node, ast.Expr):
            row = rows[node.lineno - 1]
            with self.subTest(row=row):
                answer = eval(compile(ast.Expression(node.value), "README.md", "eval"), names)
                self.assertEqual(answer, told_in(row))
            return 1
        if isinstance(node, ast.Try):
            with self.assertRaises(ValueError) as caught:
                exec(compile(ast.Module(node.body, []), "README.md", "exec"), names)
            names["error"] = caught.exception
            return sum(self.carried_out(part, rows, names) for part in node.handlers[0].body)
        exec(compile(ast.Module([node], []), "README.md", "exec"), names)
        return 0


if __name__ == "__main__":
    unittest.main()
