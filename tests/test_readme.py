import contextlib
import io
import pathlib
import re
import unittest

README = pathlib.Path(__file__).resolve().parent.parent / "README.md"


class ReadmeTest(unittest.TestCase):
    def test_the_example_does_what_it_says(self):
        example = re.search(r"```python\n(.*?)```", README.read_text(encoding="utf-8"), re.DOTALL).group(1)
        printed = io.StringIO()
        with contextlib.redirect_stdout(printed):
            exec(example, {})
        self.assertEqual(printed.getvalue(), "((1, 0), 7)\n")


if __name__ == "__main__":
    unittest.main()
