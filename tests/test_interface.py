"""The names and arguments that the document's interface tells."""

import inspect
import unittest

from bargerow import cutting, moving, trees

INTERFACE = {
    (trees, "row_of"): ["tree"],
    (trees, "barge_at"): ["tree", "place"],
    (trees, "greatest"): ["tree", "first", "end"],
    (cutting, "tree_of"): ["row"],
    (cutting, "joined"): ["one", "other"],
    (cutting, "cut"): ["tree", "place"],
    (moving, "put"): ["tree", "place", "barge"],
    (moving, "taken"): ["tree", "place"],
    (moving, "moved"): ["tree", "first", "end", "place"],
}


class InterfaceTest(unittest.TestCase):
    def test_each_function_has_its_arguments(self):
        for (module, name), arguments in INTERFACE.items():
            with self.subTest(name):
                parameters = inspect.signature(getattr(module, name)).parameters
                self.assertEqual(list(parameters), arguments)


if __name__ == "__main__":
    unittest.main()
