"""The interface: the names and arguments of what has been built, as the document tells them."""

import importlib
import inspect
import unittest

FUNCTIONS = {
    "rounds": {"plus": ["number", "step"], "offset": ["number", "base"], "past": ["number", "base"]},
    "sums": {"folded": ["row"], "sum_of": ["row"]},
    "segments": {"length": ["segment"], "put": ["segment"], "is_right": ["row"], "get": ["row"]},
    "notes": {"shown": ["segment"], "read": ["line"]},
    "calls": {
        "opened": ["ours", "theirs", "first", "active"],
        "write": ["end", "row"],
        "read": ["end", "many"],
        "close": ["end"],
        "abort": ["end"],
    },
    "ends": {"state": ["end"], "error": ["end"]},
}


class InterfaceTest(unittest.TestCase):
    def test_names_and_arguments(self):
        for file, functions in FUNCTIONS.items():
            module = importlib.import_module(f"wirestream.{file}")
            for name, arguments in functions.items():
                found = inspect.signature(getattr(module, name)).parameters
                self.assertEqual(list(found), arguments, f"{file}: {name}")

    def test_kinds(self):
        calls = importlib.import_module("wirestream.calls")
        ends = importlib.import_module("wirestream.ends")
        end = calls.opened(1, 2, 3, True)
        self.assertIs(type(calls.write(end, [4])), int)
        self.assertIs(type(calls.read(end, 1)), list)
        self.assertIs(type(ends.state(end)), str)
        self.assertIs(type(ends.error(end)), str)
        for call in (calls.close, calls.abort):
            self.assertIs(type(call(end)), bool)
            self.assertIs(type(call(calls.opened(1, 2, 3, False))), bool)


if __name__ == "__main__":
    unittest.main()
