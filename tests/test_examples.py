"""All examples of the document, one after another: examples.txt holds them as they stand there."""

import pathlib
import unittest

EXAMPLES = pathlib.Path(__file__).resolve().parent / "examples.txt"


def examples():
    """The list of the pairs of a line of code and what is shown for it."""
    found = []
    for line in EXAMPLES.read_text(encoding="ascii").splitlines():
        if line.startswith(">>> "):
            found.append((line[4:], []))
        elif line:
            found[-1][1].append(line)
    return [(code, "\n".join(shown)) for code, shown in found]


def shown_for(code, names):
    """What is shown for a line of code: its value unless it is None, or the error with its attributes."""
    try:
        value = eval(compile(code, "example", "eval"), names)
    except SyntaxError:
        exec(compile(code, "example", "exec"), names)
        return ""
    except ValueError as error:
        attributes = ", ".join(f"{name}={value!r}" for name, value in vars(error).items())
        return f"raises {type(error).__name__}({attributes})"
    return "" if value is None else repr(value)


class ExamplesTest(unittest.TestCase):

    def test_all(self):
        names = {}
        told = examples()
        self.assertEqual(len(told), 107)
        for code, shown in told:
            self.assertEqual(shown_for(code, names), shown, code)


if __name__ == "__main__":
    unittest.main()
