"""The examples of the document's interface, as they stand there: names stay what they were in the one ahead."""

import doctest
import os
import unittest

HERE = os.path.dirname(os.path.abspath(__file__))
FOLDER, README = os.path.join(HERE, "examples"), os.path.join(os.path.dirname(HERE), "README.md")


class ExamplesTest(unittest.TestCase):

    def run_file(self, name, many):
        """All examples of a file of the folder, in one namespace; a failing one is told."""
        with open(os.path.join(FOLDER, name), encoding="ascii") as file:
            self.run_text(name, file.read(), many)

    def run_text(self, name, text, many):
        test = doctest.DocTestParser().get_doctest(text, {}, name, name, 0)
        self.assertEqual(len(test.examples), many)
        told = []
        result = doctest.DocTestRunner(verbose=False).run(test, out=told.append)
        self.assertEqual((result.failed, result.attempted), (0, many), "".join(told))

    def test_numbers_lines_and_parts_of_lines(self):
        self.run_file("stage1.txt", 7)

    def test_planes_letters_parts_of_planes_and_slopes(self):
        self.run_file("stage2.txt", 15)

    def test_products_parts_over_the_fractions_numbers_over_roots_and_pieces(self):
        self.run_file("stage3.txt", 14)

    def test_rests_modulo_primes_guards_curves_and_followers(self):
        self.run_file("stage4.txt", 13)

    def test_equations_passings_meetings_and_texts(self):
        self.run_file("stage5.txt", 12)

    def test_readers_claims_commands_and_desks(self):
        self.run_file("stage6.txt", 12)

    def test_how_to_use_it(self):
        with open(README, encoding="ascii") as file:
            self.run_text("README.md", file.read().replace("```", ""), 48)


if __name__ == "__main__":
    unittest.main()
