"""The examples of the interface, word for word, which the folder examples holds; and those of README.md."""

import doctest
import re
import unittest
from pathlib import Path

FOLDER = Path(__file__).parent / "examples"


class Examples(unittest.TestCase):
    def check(self, name, many):
        """All examples of a file come out as they are told; names go on from one to the next."""
        self.check_text((FOLDER / name).read_text(encoding="utf-8"), name, many)

    def check_text(self, text, name, many):
        test = doctest.DocTestParser().get_doctest(text, {}, name, name, 0)
        told = []
        found = doctest.DocTestRunner(verbose=False).run(test, out=told.append)
        self.assertEqual((found.failed, found.attempted), (0, many), "".join(told))

    def test_stage_1(self):
        self.check("stage1.txt", 5)

    def test_stage_2(self):
        self.check("stage2.txt", 12)

    def test_stage_3(self):
        self.check("stage3.txt", 9)

    def test_stage_4(self):
        self.check("stage4.txt", 8)

    def test_stage_5(self):
        self.check("stage5.txt", 12)

    def test_stage_6(self):
        self.check("stage6.txt", 10)

    def test_stage_7(self):
        self.check("stage7.txt", 8)

    def test_stage_8(self):
        self.check("stage8.txt", 16)

    def test_stage_9(self):
        self.check("stage9.txt", 20)

    def test_readme(self):
        text = (FOLDER.parent.parent / "README.md").read_text(encoding="utf-8")
        self.check_text("\n".join(re.findall(r"```\n(>>>.*?)```", text, re.DOTALL)), "README.md", 30)


if __name__ == "__main__":
    unittest.main()
