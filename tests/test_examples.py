"""The examples of the document, word for word, each file for one module."""

import doctest
import importlib
import pathlib
import unittest

from huesandrounds.forms import mirrored, plain
from huesandrounds.squares import rectangle
from huesandrounds.trees import tree_at
from tests.support import F, H, K, P, Q, R

FOLDER = pathlib.Path(__file__).parent / "examples"


class Examples(unittest.TestCase):
    def run_file(self, path):
        module = importlib.import_module(f"huesandrounds.{path.stem}")
        names = {name: worth for name, worth in vars(module).items() if not name.startswith("_")}
        names.update(F=F, P=P, K=K, Q=Q, H=H, R=R, plain=plain, tree_at=tree_at, rectangle=rectangle,
                     mirrored=mirrored)
        parsed = doctest.DocTestParser().get_doctest(path.read_text(), names, path.stem, str(path), 0)
        self.assertGreater(len(parsed.examples), 0)
        told = []
        result = doctest.DocTestRunner(verbose=False).run(parsed, out=told.append)
        self.assertEqual(result.failed, 0, "".join(told))

    def test_readme(self):
        path = FOLDER.parent.parent / "README.md"
        result = doctest.testfile(str(path), module_relative=False, verbose=False)
        self.assertEqual(result.failed, 0)
        self.assertGreater(result.attempted, 0)

    def test_all_files(self):
        paths = sorted(FOLDER.glob("*.txt"))
        self.assertGreater(len(paths), 0)
        for path in paths:
            with self.subTest(path.stem):
                self.run_file(path)
