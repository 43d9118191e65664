import unittest

from everyfont import errors

ARGUMENTS = {
    "NotNumber": ("value",),
    "NotPoint": ("place",),
    "NotRow": ("place",),
    "NotFormula": ("path",),
    "NotFont": ("name",),
    "NotFamily": ("place",),
    "NotSystem": ("number",),
    "NotClaim": ("path",),
    "NotPicture": ("number",),
    "NotText": ("line", "word"),
    "NotPaper": ("path",),
    "NotName": ("name",),
    "NotGrid": ("number",),
    "Unlike": (),
    "Empty": (),
    "Endless": (),
    "TooGreat": ("most",),
}


class Errors(unittest.TestCase):
    def test_the_first_stands_beneath_value_error(self):
        self.assertEqual(errors.FontError.__bases__, (ValueError,))

    def test_all_others_stand_directly_beneath_it(self):
        for name in ARGUMENTS:
            with self.subTest(name):
                self.assertEqual(getattr(errors, name).__bases__, (errors.FontError,))

    def test_there_are_no_others(self):
        found = {name for name in vars(errors) if isinstance(getattr(errors, name), type)}
        self.assertEqual(found, {"FontError", *ARGUMENTS})

    def test_arguments_are_attributes(self):
        for name, arguments in ARGUMENTS.items():
            values = [("value", place) for place in range(len(arguments))]
            by_position = getattr(errors, name)(*values)
            by_name = getattr(errors, name)(**dict(zip(arguments, values)))
            for argument, value in zip(arguments, values):
                with self.subTest(name, argument=argument):
                    self.assertEqual(getattr(by_position, argument), value)
                    self.assertEqual(getattr(by_name, argument), value)

    def test_arguments_are_wanted_exactly(self):
        for name, arguments in ARGUMENTS.items():
            if arguments:
                with self.subTest(name), self.assertRaises(TypeError):
                    getattr(errors, name)()

    def test_attributes_may_be_anything(self):
        for value in (None, -1, (), [1], "x", (1, (2,))):
            with self.subTest(value):
                self.assertIs(errors.NotFont(value).name, value)

    def test_errors_can_be_caught_by_the_first(self):
        with self.assertRaises(errors.FontError) as caught:
            raise errors.NotText(3, 5)
        self.assertEqual((caught.exception.line, caught.exception.word), (3, 5))
        with self.assertRaises(ValueError):
            raise errors.Empty()


if __name__ == "__main__":
    unittest.main()
