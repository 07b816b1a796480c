import contextlib
import io
import pathlib
import re
import unittest

README = pathlib.Path(__file__).resolve().parent.parent / "README.md"
EXAMPLE = re.compile(r"```python\n(.*?)```\n\nprints\n\n```text\n(.*?)```", re.DOTALL)


class ReadmeTest(unittest.TestCase):
    def test_the_examples_do_what_they_say(self):
        text = README.read_text(encoding="utf-8")
        examples = EXAMPLE.findall(text)
        self.assertEqual(len(examples), text.count("```python"))
        self.assertGreater(len(examples), 0)
        for example, wanted in examples:
            printed = io.StringIO()
            with contextlib.redirect_stdout(printed):
                exec(example, {})
            self.assertEqual(printed.getvalue(), wanted)


if __name__ == "__main__":
    unittest.main()
