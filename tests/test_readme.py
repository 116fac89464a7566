"""README.md: its examples are right."""

import doctest
import re
import unittest
from pathlib import Path

README = Path(__file__).resolve().parent.parent / "README.md"


class ReadmeTest(unittest.TestCase):
    def test_examples(self):
        blocks = re.findall(r"```python\n(.*?)```", README.read_text(), re.S)
        self.assertGreater(len(blocks), 3)
        text = ""
        for block in blocks:
            lines = block.splitlines()
            text += "\n".join(lines if ">>>" in block else [f">>> {line}" for line in lines]) + "\n\n"
        said = []
        outcome = doctest.DocTestRunner().run(
            doctest.DocTestParser().get_doctest(text, {}, "README", None, 0), out=said.append
        )
        self.assertEqual(outcome.failed, 0, "".join(said))


if __name__ == "__main__":
    unittest.main()
