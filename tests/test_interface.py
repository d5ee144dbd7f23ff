"""The interface: the names and arguments of what has been built, as the document tells them."""

import importlib
import inspect
import unittest

FUNCTIONS = {
    "rounds": {"plus": ["number", "step"], "offset": ["number", "base"], "past": ["number", "base"]},
    "sums": {"folded": ["row"], "sum_of": ["row"]},
    "segments": {"length": ["segment"], "put": ["segment"], "is_right": ["row"], "get": ["row"]},
    "notes": {"shown": ["segment"], "read": ["line"]},
    "calls": {
        "opened": ["ours", "theirs", "first", "active"],
        "write": ["end", "row"],
        "read": ["end", "many"],
        "close": ["end"],
        "abort": ["end"],
    },
    "ends": {"state": ["end"], "error": ["end"]},
    "arriving": {"arrive": ["end", "row", "now"]},
    "sending": {"send": ["end", "now"]},
    "hosts": {"Host": ["first"]},
}

METHODS = {
    "listens": ["self", "port"],
    "calls": ["self", "ours", "theirs"],
    "arrives": ["self", "row", "now"],
    "sends": ["self", "now"],
    "taken_end": ["self", "port"],
}


class InterfaceTest(unittest.TestCase):
    def test_names_and_arguments(self):
        for file, functions in FUNCTIONS.items():
            module = importlib.import_module(f"wirestream.{file}")
            for name, arguments in functions.items():
                found = inspect.signature(getattr(module, name)).parameters
                self.assertEqual(list(found), arguments, f"{file}: {name}")

    def test_methods_of_a_host(self):
        host = importlib.import_module("wirestream.hosts").Host
        for name, arguments in METHODS.items():
            self.assertEqual(list(inspect.signature(getattr(host, name)).parameters), arguments, name)

    def test_kinds(self):
        calls = importlib.import_module("wirestream.calls")
        ends = importlib.import_module("wirestream.ends")
        end = calls.opened(1, 2, 3, True)
        self.assertIs(type(calls.write(end, [4])), int)
        self.assertIs(type(calls.read(end, 1)), list)
        self.assertIs(type(ends.state(end)), str)
        self.assertIs(type(ends.error(end)), str)
        for call in (calls.close, calls.abort):
            self.assertIs(type(call(end)), bool)
            self.assertIs(type(call(calls.opened(1, 2, 3, False))), bool)
        end = calls.opened(1, 2, 3, True)
        send = importlib.import_module("wirestream.sending").send
        self.assertIs(type(send(end, 0)), list)
        self.assertIs(type(send(end, 0)), list)
        arrive = importlib.import_module("wirestream.arriving").arrive
        self.assertIs(type(arrive(end, [], 0)), bool)


if __name__ == "__main__":
    unittest.main()
