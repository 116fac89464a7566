"""Point 1: no clock, no random numbers, no files."""

import ast
import unittest
from pathlib import Path

PACKAGE = Path(__file__).resolve().parent.parent / "planetbox"
FORBIDDEN = {"datetime", "io", "os", "pathlib", "random", "secrets", "socket", "sys", "tempfile", "time", "uuid"}


class PackageTest(unittest.TestCase):
    def test_no_clock_no_random_numbers_no_files(self):
        for path in sorted(PACKAGE.glob("*.py")):
            for node in ast.walk(ast.parse(path.read_text())):
                if isinstance(node, ast.Import):
                    used = {name.name.partition(".")[0] for name in node.names}
                elif isinstance(node, ast.ImportFrom):
                    used = {(node.module or "").partition(".")[0]}
                elif isinstance(node, ast.Name):
                    used = {node.id} & {"open", "input", "print", "__import__", "hash", "id"}
                    self.assertEqual(used, set(), path.name)
                else:
                    continue
                self.assertEqual(used & FORBIDDEN, set(), path.name)


if __name__ == "__main__":
    unittest.main()
