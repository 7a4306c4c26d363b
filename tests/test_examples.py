"""The examples of the README, and those of the document where it lies beside, answer as told."""

import builtins
import doctest
import pathlib
import re
import unittest

HERE = pathlib.Path(__file__).resolve().parent.parent
DOCUMENT = HERE.parent / "shared" / "DOC.md"


def blocks_of(path, fence):
    """The blocks of examples of a text."""
    return [block for block in re.findall(fence + r"\n(.*?)```", path.read_text(), re.S) if block.startswith(">>>")]


class TestExamples(unittest.TestCase):
    def tearDown(self):
        # What was shown last is kept there, which other tests would take for a builtin.
        vars(builtins).pop("_", None)

    def check(self, blocks):
        """That all blocks answer as told; names stand for what they were in the block ahead."""
        names = {}
        for block in blocks:
            example = doctest.DocTestParser().get_doctest(block, names, "examples", None, 0)
            told = []
            runner = doctest.DocTestRunner(verbose=False)
            runner.run(example, out=told.append, clear_globs=False)
            self.assertEqual(runner.failures, 0, "".join(told))
            self.assertGreater(runner.tries, 0)
            names = example.globs

    def test_the_readme(self):
        blocks = blocks_of(HERE / "README.md", "```python")
        self.assertEqual(len(blocks), 7)
        self.check(blocks)

    def test_the_document(self):
        if DOCUMENT.is_file():
            blocks = blocks_of(DOCUMENT, "```")
            self.assertGreater(len(blocks), 0)
            self.check(blocks)


if __name__ == "__main__":
    unittest.main()
