"""Each example of the document, told just as it stands there."""

import doctest
import unittest

from tests import examples


class TestExamples(unittest.TestCase):
    def test_each_stage(self):
        names = {}
        for stage in range(1, 32):
            with self.subTest(stage):
                text = getattr(examples, f"STAGE_{stage}")
                test = doctest.DocTestParser().get_doctest(text, names, f"stage {stage}", None, 0)
                said = []
                runner = doctest.DocTestRunner(verbose=False)
                found = runner.run(test, out=said.append, clear_globs=False)
                names = test.globs
                self.assertGreater(found.attempted, 0)
                self.assertEqual(found.failed, 0, "".join(said))


if __name__ == "__main__":
    unittest.main()
