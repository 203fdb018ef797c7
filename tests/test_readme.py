import pathlib
import re
import unittest

README = pathlib.Path(__file__).resolve().parent.parent / "README.md"


class Readme(unittest.TestCase):
    def test_its_example_answers_as_it_says(self):
        code = re.search(r"```python\n(.*?)```", README.read_text(encoding="utf-8"), re.DOTALL).group(1)
        names = {}
        for line in code.splitlines():
            asked, mark, said = line.partition("#")
            if mark:
                with self.subTest(asked.strip()):
                    self.assertEqual(eval(asked, names), eval(said.strip(), names))
            else:
                exec(asked, names)


if __name__ == "__main__":
    unittest.main()
