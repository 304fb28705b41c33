import inspect
import unittest

from roundcede import errors

REFUSALS = (
    "BadName", "KnownHouse", "UnknownHouse", "ToItself", "DaysTurned", "OutOfRange",
    "TooMuch", "ShutIn", "Full", "NothingDone", "Unclear",
)


def make(name):
    cls = getattr(errors, name)
    if name == "ShutIn":
        return cls(3, ["ash", "elm"])
    return cls("words")


class Classes(unittest.TestCase):
    def test_the_common_class_stands_straight_under_value_error(self):
        self.assertEqual(errors.CedeError.__bases__, (ValueError,))

    def test_each_refusal_stands_straight_under_the_common_class(self):
        for name in REFUSALS:
            with self.subTest(name=name):
                self.assertEqual(getattr(errors, name).__bases__, (errors.CedeError,))

    def test_there_are_eleven_refusals_and_no_two_are_one_class(self):
        self.assertEqual(len(set(getattr(errors, name) for name in REFUSALS)), 11)

    def test_there_is_no_other_error_class(self):
        defined = [name for name, one in inspect.getmembers(errors, inspect.isclass)]
        self.assertEqual(sorted(defined), sorted(REFUSALS + ("CedeError",)))

    def test_a_class_is_called_as_it_is_named(self):
        for name in REFUSALS + ("CedeError",):
            self.assertEqual(getattr(errors, name).__name__, name)

    def test_each_refusal_is_caught_by_its_class_and_by_no_other(self):
        for name in REFUSALS:
            for other in REFUSALS:
                with self.subTest(name=name, other=other):
                    self.assertEqual(isinstance(make(name), getattr(errors, other)), name == other)

    def test_each_refusal_can_be_raised_without_words(self):
        for name in REFUSALS:
            if name != "ShutIn":
                with self.assertRaises(getattr(errors, name)):
                    raise getattr(errors, name)()

    def test_each_refusal_can_be_raised_with_words(self):
        for name in REFUSALS:
            for caught in (name, "CedeError"):
                with self.assertRaises(getattr(errors, caught)):
                    raise make(name)
            with self.assertRaises(ValueError):
                raise make(name)


class ShutInFields(unittest.TestCase):
    def test_fields_are_set_when_it_is_made(self):
        refusal = errors.ShutIn(17, ["ash", "elm"])
        self.assertEqual(refusal.day, 17)
        self.assertEqual(refusal.names, ["ash", "elm"])
        self.assertIs(type(refusal.day), int)
        self.assertIs(type(refusal.names), list)

    def test_fields_have_the_names_of_the_interface_as_arguments(self):
        refusal = errors.ShutIn(names=["oak"], day=0)
        self.assertEqual((refusal.day, refusal.names), (0, ["oak"]))

    def test_both_fields_must_be_given(self):
        for given in ((), (3,)):
            with self.assertRaises(TypeError):
                errors.ShutIn(*given)

    def test_the_order_of_the_names_stays(self):
        self.assertEqual(errors.ShutIn(1, ["oak", "ash", "elm"]).names, ["oak", "ash", "elm"])

    def test_fields_are_there_when_it_is_caught(self):
        try:
            raise errors.ShutIn(5000, ["ash"])
        except errors.CedeError as caught:
            self.assertEqual((caught.day, caught.names), (5000, ["ash"]))

    def test_the_list_of_names_is_a_new_one(self):
        handed = ["ash", "elm"]
        one = errors.ShutIn(2, handed)
        two = errors.ShutIn(2, handed)
        one.names.append("oak")
        self.assertEqual(handed, ["ash", "elm"])
        self.assertEqual(two.names, ["ash", "elm"])
        handed.append("yew")
        self.assertEqual(two.names, ["ash", "elm"])

    def test_nothing_else_in_it_keeps_the_list_that_was_handed_in(self):
        handed = ["ash", "elm"]
        refusal = errors.ShutIn(2, handed)
        before = str(refusal)
        handed.append("oak")
        refusal.names.append("yew")
        self.assertEqual(str(refusal), before)
        self.assertFalse(any(one is handed for one in refusal.args))


if __name__ == "__main__":
    unittest.main()
