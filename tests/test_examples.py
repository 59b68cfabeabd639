"""The examples of the document, as they stand there."""

import importlib
import os
import unittest

FILES = (
    "webs", "times", "spreads", "order", "same", "edits", "lean", "berths", "served", "tugs", "cargo", "changes",
    "delays", "air", "days", "daily", "rules", "judge", "texts", "board", "desk",
)
TEXT = os.path.join(os.path.dirname(os.path.abspath(__file__)), "examples.txt")


def known_names():
    names = {}
    for file in FILES:
        module = importlib.import_module(f"slowship.{file}")
        names.update({name: getattr(module, name) for name in dir(module) if not name.startswith("_")})
    return names


def reply(line, names):
    """What the line tells, as the document writes it."""
    try:
        return repr(eval(line, names))
    except (LookupError, ValueError) as error:
        kept = ", ".join(f"{name}={value!r}" for name, value in vars(error).items())
        return f"raises {error.__class__.__name__}({kept})"


class Examples(unittest.TestCase):
    def test_examples(self):
        names = known_names()
        with open(TEXT, encoding="utf-8") as file:
            lines = file.read().splitlines()
        asked = 0
        for line, after in zip(lines, [*lines[1:], ""]):
            if not line.startswith(">>> "):
                continue
            if after == "" or after.startswith((">>> ", "## ")):
                exec(line[4:], names)
                continue
            asked += 1
            with self.subTest(line):
                self.assertEqual(reply(line[4:], names), after)
        self.assertEqual(asked, 100)


if __name__ == "__main__":
    unittest.main()
