"""The session that README.md shows."""

import pathlib
import unittest

from tests.helpers import assert_printed


class Readme(unittest.TestCase):
    def test_the_session(self):
        text = (pathlib.Path(__file__).resolve().parent.parent / "README.md").read_text(encoding="utf-8")
        assert_printed(self, text.split("```")[1])
