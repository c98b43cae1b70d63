"""The sessions that README.md shows."""

import pathlib
import unittest

from tests.helpers import assert_printed


class Readme(unittest.TestCase):
    def test_the_sessions(self):
        text = (pathlib.Path(__file__).resolve().parent.parent / "README.md").read_text(encoding="utf-8")
        sessions = text.split("```")[1::2]
        self.assertEqual(len(sessions), 3)
        for session in sessions:
            assert_printed(self, session)
