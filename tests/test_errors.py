import unittest

from fadeleaf import errors

STRAIGHT_UNDER_FADE = (
    "NoPalette", "NoTag", "NoWear", "NoDeed", "NoPlaces", "Unlike", "NoText", "NoRow", "NoBook", "Halted",
)
UNDER_PYTHONS = {
    "FadeError": ValueError,
    "NoInk": LookupError,
    "NoLayer": LookupError,
    "NoName": LookupError,
    "NoAmount": ArithmeticError,
    "Worn": RuntimeError,
}
WITH_AT = ("NoPalette", "NoText", "Worn")
WITH_WHO = ("NoTag", "NoInk", "NoLayer", "NoName", "NoAmount")
WITHOUT_FIELDS = ("FadeError", "NoWear", "NoDeed", "NoPlaces", "Unlike", "NoRow", "NoBook")


class Classes(unittest.TestCase):
    def test_each_stands_straight_under_its_class(self):
        for name in STRAIGHT_UNDER_FADE:
            self.assertEqual(getattr(errors, name).__bases__, (errors.FadeError,), name)
        for name, base in UNDER_PYTHONS.items():
            self.assertEqual(getattr(errors, name).__bases__, (base,), name)

    def test_each_is_defined_in_the_file(self):
        for name in [*STRAIGHT_UNDER_FADE, *UNDER_PYTHONS]:
            made = getattr(errors, name)
            self.assertEqual((made.__module__, made.__qualname__), ("fadeleaf.errors", name))

    def test_none_stands_under_another_but_so(self):
        for name in UNDER_PYTHONS:
            if name != "FadeError":
                self.assertFalse(issubclass(getattr(errors, name), errors.FadeError), name)


class Fields(unittest.TestCase):
    def test_at(self):
        for name in WITH_AT:
            for at in (None, 0, 7, 10 ** 60):
                error = getattr(errors, name)(at)
                self.assertEqual(vars(error), {"at": at}, name)

    def test_who_is_the_very_thing(self):
        for name in WITH_WHO:
            for who in (None, "moon", 0, True, [], object(), (1, [2])):
                error = getattr(errors, name)(who)
                self.assertEqual(list(vars(error)), ["who"], name)
                self.assertIs(error.who, who, name)

    def test_halted(self):
        self.assertEqual(vars(errors.Halted(2, ["ok", "ok"])), {"at": 2, "told": ["ok", "ok"]})

    def test_worn_of_a_place_by_itself(self):
        self.assertEqual(errors.Worn().at, 0)

    def test_the_others_have_none(self):
        for name in WITHOUT_FIELDS:
            self.assertEqual(vars(getattr(errors, name)()), {}, name)

    def test_each_can_be_raised_and_caught(self):
        for name in [*STRAIGHT_UNDER_FADE, *UNDER_PYTHONS]:
            made = getattr(errors, name)
            fields = {"Halted": (0, [])}.get(name, (0,) if name in WITH_AT + WITH_WHO else ())
            with self.assertRaises(made.__bases__[0]) as caught:
                raise made(*fields)
            self.assertIs(type(caught.exception), made)
            self.assertIsInstance(str(caught.exception), str)


if __name__ == "__main__":
    unittest.main()
