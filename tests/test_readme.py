"""The examples of README.md, one behind another."""

import doctest
import pathlib
import unittest

README = pathlib.Path(__file__).resolve().parent.parent / "README.md"


class Readme(unittest.TestCase):
    def test_examples(self):
        text = README.read_text(encoding="utf-8")
        code = text.split("```python\n")[1].split("```")[0]
        found = doctest.DocTestParser().get_doctest(code, {}, "README", str(README), 0)
        self.assertGreater(len(found.examples), 20)
        told = []
        failed, _ = doctest.DocTestRunner().run(found, out=told.append)
        self.assertEqual(failed, 0, "".join(told))


if __name__ == "__main__":
    unittest.main()
