"""The examples of the interface, as they are written there: examples.txt has all of them, in their order."""

import pathlib
import unittest

EXAMPLES = pathlib.Path(__file__).with_name("examples.txt")


def examples():
    """Pairs of a line of code and what it has to show."""
    found = []
    for line in EXAMPLES.read_text(encoding="ascii").splitlines():
        if line.startswith(">>> "):
            found.append((line[4:], []))
        elif line:
            found[-1][1].append(line)
    return [(code, "\n".join(shown)) for code, shown in found]


def shown_by(code, names):
    """What a line of code shows. A statement shows nothing."""
    try:
        if " = " in code or code.startswith("from "):
            exec(code, names)
            return ""
        return repr(eval(code, names))
    except ValueError as error:
        fields = ", ".join(f"{name}={value!r}" for name, value in vars(error).items())
        return f"raises {type(error).__name__}({fields})"


class ExamplesTest(unittest.TestCase):
    def test_examples(self):
        names = {}
        count = 0
        for code, expected in examples():
            with self.subTest(code):
                self.assertEqual(shown_by(code, names), expected)
            count += expected != ""
        self.assertGreaterEqual(count, 80)


if __name__ == "__main__":
    unittest.main()
