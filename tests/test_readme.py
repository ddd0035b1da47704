"""The examples of README.md run, and the values that it tells of them are true."""

import ast
import pathlib
import re
import unittest

README = pathlib.Path(__file__).resolve().parent.parent / "README.md"


class ReadmeTest(unittest.TestCase):
    def test_examples(self):
        names, told = {}, {}
        for block in re.findall(r"```python\n(.*?)```", README.read_text(), re.DOTALL):
            for node in ast.parse(block).body:
                if isinstance(node, ast.Expr):
                    told[ast.unparse(node)] = eval(compile(ast.Expression(node.value), "README.md", "eval"), names)
                else:
                    exec(compile(ast.Module([node], []), "README.md", "exec"), names)
        self.assertEqual((names["word"], names["value"]), ("run", 2))
        self.assertEqual(names["given"][0], "yes")
        self.assertIs(told["shows(box, question, given)"], True)
        self.assertIs(told["replay(setup, read_book(book)) == desk"], True)
        self.assertEqual(told["desk.alerts()"], [("many", "yes", 1)])
        self.assertEqual(told["overspent(meter, 2, 2)"][0], "yes")
        self.assertIn(("surely", ["f"]), [found[:2] for found in told.values() if isinstance(found, tuple)])


if __name__ == "__main__":
    unittest.main()
