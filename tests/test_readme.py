"""The example of README.md tells what its comments say."""

import os
import re
import unittest

TOP = os.path.dirname(os.path.dirname(os.path.abspath(__file__)))


class Readme(unittest.TestCase):
    def test_example(self):
        with open(os.path.join(TOP, "README.md"), encoding="utf-8") as file:
            example = re.search("```python\n(.*?)```", file.read(), re.DOTALL).group(1)
        names = {}
        exec(example, names)
        told = re.findall(r"^([a-z_.]+\(.*\)\S*) +# (.*)$", example, re.MULTILINE)
        self.assertEqual(len(told), 24)
        for call, wanted in told:
            self.assertEqual(repr(eval(call, names)), wanted, call)


if __name__ == "__main__":
    unittest.main()
