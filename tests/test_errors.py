import unittest

from kindredbush import errors

WITHOUT = ["UnlikeGroves", "TooGreat", "NothingDone"]
WITH_PATH = ["BadFits", "BadLadder", "BadBag", "BadGrove", "BadAssembly", "BadKinds"]
WITH_OTHERS = {
    "BadTable": ("word", "value"), "BadDeed": ("number",), "BadText": ("place",),
    "Unbuilt": ("word", "value"), "BadAct": ("word",),
}


class Classes(unittest.TestCase):
    def test_bases(self):
        self.assertEqual(errors.KinError.__bases__, (ValueError,))
        self.assertEqual(errors.NameMissing.__bases__, (LookupError,))
        self.assertEqual(errors.UnknownName.__bases__, (errors.NameMissing,))
        for name in WITHOUT + WITH_PATH + list(WITH_OTHERS):
            self.assertEqual(getattr(errors, name).__bases__, (errors.KinError,), name)

    def test_the_two_families_are_apart(self):
        self.assertFalse(issubclass(errors.UnknownName, ValueError))
        self.assertFalse(issubclass(errors.KinError, LookupError))

    def test_there_are_no_others(self):
        names = {name for name, value in vars(errors).items() if isinstance(value, type)}
        listed = {"KinError", "NameMissing", "UnknownName"} | set(WITHOUT) | set(WITH_PATH) | set(WITH_OTHERS)
        self.assertEqual(names, listed)

    def test_modules(self):
        for name in WITHOUT + WITH_PATH + list(WITH_OTHERS) + ["KinError", "NameMissing", "UnknownName"]:
            self.assertEqual(getattr(errors, name).__module__, "kindredbush.errors")


class Attributes(unittest.TestCase):
    def test_without(self):
        for name in WITHOUT:
            self.assertEqual(vars(getattr(errors, name)()), {})

    def test_path_is_kept_as_a_tuple(self):
        for name in WITH_PATH:
            for path in [(), [], (0, 1), [2, 0, 1], ("a", None), [[1], {}]]:
                error = getattr(errors, name)(path)
                self.assertEqual(vars(error), {"path": tuple(path)})
                self.assertIs(type(error.path), tuple)

    def test_others_are_kept_as_they_are(self):
        values = [None, True, 0, "word", ("a", [1]), ["a"], {"a": 1}, object()]
        for name, attributes in WITH_OTHERS.items():
            for value in values:
                for last in values:
                    arguments = (last, value)[-len(attributes):]
                    error = getattr(errors, name)(*arguments)
                    self.assertEqual(list(vars(error)), list(attributes))
                    for attribute, argument in zip(attributes, arguments):
                        self.assertIs(getattr(error, attribute), argument)

    def test_unknown_name(self):
        for value in [None, "word", ["a"], {"a": 1}, ("root", 0)]:
            error = errors.UnknownName(value)
            self.assertEqual(list(vars(error)), ["name"])
            self.assertIs(error.name, value)

    def test_arguments_have_their_names(self):
        self.assertEqual(errors.BadFits(path=[1]).path, (1,))
        self.assertEqual(errors.BadTable(value=2, word=1).word, 1)
        self.assertEqual(errors.UnknownName(name="a").name, "a")

    def test_they_are_caught_by_their_bases(self):
        with self.assertRaises(ValueError):
            raise errors.BadText(3)
        with self.assertRaises(LookupError):
            raise errors.UnknownName("a")
