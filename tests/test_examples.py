"""The examples of the interface, as they are printed in the document."""

import doctest
from pathlib import Path
from unittest import TestCase

FOLDER = Path(__file__).parent / "examples"


class Examples(TestCase):

    def check(self, name, many, text=None):
        text = (FOLDER / f"{name}.txt").read_text() if text is None else text
        example = doctest.DocTestParser().get_doctest(text, {}, name, name, 0)
        told = []
        result = doctest.DocTestRunner(verbose=False).run(example, out=told.append)
        self.assertEqual((0, many), (result.failed, result.attempted), "".join(told))

    def test_schemas(self):
        self.check("schemas", 4)

    def test_queries(self):
        self.check("queries", 7)

    def test_statistics(self):
        self.check("statistics", 9)

    def test_weighing(self):
        self.check("weighing", 7)

    def test_sizes(self):
        self.check("sizes", 11)

    def test_within(self):
        self.check("within", 7)

    def test_renaming(self):
        self.check("renaming", 8)

    def test_shipping(self):
        self.check("shipping", 10)

    def test_plans(self):
        self.check("plans", 8)

    def test_running(self):
        self.check("running", 9)

    def test_choosing(self):
        self.check("choosing", 12)

    def test_desks(self):
        self.check("desks", 7)

    def test_words(self):
        self.check("words", 2)

    def test_texts(self):
        self.check("texts", 5)

    def test_questions(self):
        self.check("questions", 6)

    def test_expressions(self):
        self.check("expressions", 8)

    def test_polynomials(self):
        self.check("polynomials", 7)

    def test_rules(self):
        self.check("rules", 5)

    def test_proofs(self):
        self.check("proofs", 6)

    def test_copies(self):
        self.check("copies", 9)

    def test_sorting(self):
        self.check("sorting", 3)

    def test_blocks(self):
        self.check("blocks", 10)

    def test_limits(self):
        self.check("limits", 7)

    def test_readme(self):
        text = (FOLDER.parent.parent / "README.md").read_text()
        self.check("README", 18, "".join(text.split("```\n")[1:2]))
