"""The section "Examples" of the document, as far as the modules go."""

from unittest import TestCase, main

from feeblind.dials import Dial, lowest_lines


class Examples(TestCase):
    def test_dial(self):
        dial = Dial("cost", "toll", 3)
        value = lowest_lines([(5, 0), (4, 1), (6, 0)], 3)
        self.assertEqual(value, ((4, 1), (5, 0)))
        self.assertIs(dial.is_value(value), True)


if __name__ == "__main__":
    main()
