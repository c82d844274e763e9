"""The examples of README.md."""

import doctest
import pathlib
import unittest

README = pathlib.Path(__file__).parent.parent / "README.md"


class Readme(unittest.TestCase):
    def test_examples(self):
        failed, tried = doctest.testfile(str(README), module_relative=False, verbose=False)
        self.assertEqual(failed, 0)
        self.assertGreater(tried, 40)

    def test_all_files_are_told(self):
        text = README.read_text()
        for path in (README.parent / "sortedshelves").glob("*.py"):
            if path.stem not in ("__init__", "bounds"):
                self.assertIn(f"{path.name}`", text)


if __name__ == "__main__":
    unittest.main()
