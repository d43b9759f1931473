"""Point 2: the errors."""

import unittest

from clipforms import errors

WITH_FIELDS = {
    "SyntaxProblem": ("line", "column"),
    "NotCarried": ("feature",),
    "NotMakable": ("form", "closed"),
    "Gone": ("closed",),
    "TooMany": ("limit",),
}
WITH_MESSAGE = (
    "NoContent", "NoForm", "NoMaker", "NoProgram", "NoDocument", "NoEntry", "NoPlace", "NoMark", "NotOffered",
    "NameTaken", "TooLarge", "NothingToUndo", "EditedSince", "HistoryFull", "InvalidCommand",
    "NoDesk", "NoLink",
)
# Two samples of the arguments of each error with fields.
SAMPLES = {
    "SyntaxProblem": ((1, 4), (201, 1)),
    "NotCarried": (("bold",), ("cells",)),
    "NotMakable": (("star", ("dot", "plain")), ("dot", ("star",))),
    "Gone": ((("plain",),), ((),)),
    "TooMany": ((12,), (30,)),
}


class Classes(unittest.TestCase):
    def test_base_class(self):
        self.assertEqual(errors.ClipError.__bases__, (ValueError,))

    def test_each_is_directly_under_the_base_class(self):
        for name in list(WITH_FIELDS) + list(WITH_MESSAGE):
            with self.subTest(name):
                self.assertEqual(getattr(errors, name).__bases__, (errors.ClipError,))

    def test_each_has_its_own_name_and_file(self):
        for name in list(WITH_FIELDS) + list(WITH_MESSAGE) + ["ClipError"]:
            with self.subTest(name):
                self.assertEqual(getattr(errors, name).__name__, name)
                self.assertEqual(getattr(errors, name).__module__, "clipforms.errors")

    def test_none_is_under_another(self):
        classes = [getattr(errors, name) for name in list(WITH_FIELDS) + list(WITH_MESSAGE)]
        for one in classes:
            for other in classes:
                with self.subTest((one.__name__, other.__name__)):
                    self.assertEqual(issubclass(one, other), one is other)


class Fields(unittest.TestCase):
    def fields(self, error):
        return tuple(getattr(error, field) for field in WITH_FIELDS[type(error).__name__])

    def test_arguments_are_fields(self):
        for name, samples in SAMPLES.items():
            for arguments in samples:
                with self.subTest((name, arguments)):
                    self.assertEqual(self.fields(getattr(errors, name)(*arguments)), arguments)

    def test_fields_of_two_made_one_after_the_other(self):
        for name, (first, second) in SAMPLES.items():
            with self.subTest(name):
                one = getattr(errors, name)(*first)
                other = getattr(errors, name)(*second)
                self.assertEqual((self.fields(one), self.fields(other)), (first, second))

    def test_fields_are_there_when_caught(self):
        for name, samples in SAMPLES.items():
            with self.subTest(name):
                with self.assertRaises(errors.ClipError) as caught:
                    raise getattr(errors, name)(*samples[0])
                self.assertEqual(self.fields(caught.exception), samples[0])

    def test_each_takes_just_its_arguments(self):
        for name, samples in SAMPLES.items():
            with self.subTest(name):
                with self.assertRaises(TypeError):
                    getattr(errors, name)(*samples[0], 1)
                with self.assertRaises(TypeError):
                    getattr(errors, name)(*samples[0][1:])

    def test_shown_as_the_document_shows_them(self):
        self.assertEqual(repr(errors.SyntaxProblem(1, 4)), "SyntaxProblem(1, 4)")
        self.assertEqual(repr(errors.NotCarried("bold")), "NotCarried('bold')")


class Messages(unittest.TestCase):
    def test_each_is_made_with_a_message(self):
        for name in WITH_MESSAGE:
            with self.subTest(name):
                one = getattr(errors, name)("one message")
                other = getattr(errors, name)("other message")
                self.assertEqual((str(one), str(other)), ("one message", "other message"))
                with self.assertRaises(errors.ClipError):
                    raise one
