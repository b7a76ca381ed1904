"""The examples in README.md answer what stands below them."""

import pathlib
import re
import unittest

from oncerounded import complexes

README = pathlib.Path(__file__).resolve().parent.parent / "README.md"
CALLS = ("two", "one", "real", "fused", "dot", "same", "change", "kind", "text", "read")


class Readme(unittest.TestCase):
    def test_examples(self):
        code = re.search(r"```python\n(.*?)```", README.read_text(encoding="utf-8"), re.DOTALL)[1]
        names = {}
        exec(code, names)
        for name in CALLS:
            self.assertIs(names[name], getattr(complexes, name))
        examples = re.findall(r"^(\w+\(.*\))\n# (.*)$", code, re.MULTILINE)
        self.assertEqual({call.partition("(")[0] for call, answer in examples}, set(CALLS))
        for call, answer in examples:
            self.assertEqual(eval(call, names), eval(answer), call)

    def test_every_call_is_told(self):
        told = README.read_text(encoding="utf-8")
        for name in CALLS:
            self.assertIn("- `" + name + "(f, ", told)


if __name__ == "__main__":
    unittest.main()
