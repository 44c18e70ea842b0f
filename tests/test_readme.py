"""The examples of README.md."""

import doctest
from pathlib import Path
from unittest import TestCase, main


class Readme(TestCase):
    def test_examples(self):
        path = Path(__file__).parent.parent / "README.md"
        # A line of backquotes ends an example; doctest would take it for a result.
        text = "\n".join("" if line.startswith("```") else line for line in path.read_text().splitlines())
        test = doctest.DocTestParser().get_doctest(text, {}, "README.md", str(path), 0)
        report = []
        failed, tried = doctest.DocTestRunner(verbose=False).run(test, out=report.append)
        self.assertEqual((failed, "".join(report)), (0, ""))
        self.assertGreater(tried, 0)


if __name__ == "__main__":
    main()
