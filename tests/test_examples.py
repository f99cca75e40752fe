import doctest
import os
import unittest

PLACE = os.path.join(os.path.dirname(os.path.abspath(__file__)), "examples.txt")


class ExamplesTest(unittest.TestCase):
    def test_each_example_of_the_interface(self):
        with open(PLACE, encoding="utf-8") as held:
            text = held.read()
        examples = doctest.DocTestParser().get_doctest(text, {}, "examples.txt", PLACE, 0)
        told = []
        failed, tried = doctest.DocTestRunner().run(examples, out=told.append)
        self.assertEqual((failed, "".join(told)), (0, ""))
        self.assertEqual(tried, text.count("\n>>> "))


if __name__ == "__main__":
    unittest.main()
