"""Point 3: the refusals and how they stand to each other. And the interface's names."""

import inspect
import unittest

from changeride import added, desk, errors, rides, riding, texts, told, turnings, wants, webs

NAMES = (
    "NoWeb",
    "NoPlace",
    "NoCompany",
    "NoLine",
    "NoEnd",
    "NoRide",
    "NoNumber",
    "NoTurning",
    "TooMany",
    "NoText",
    "NoForm",
    "NoneYet",
)


class Refusals(unittest.TestCase):
    def test_each_stands_under_ride_error(self):
        for name in NAMES:
            self.assertTrue(issubclass(getattr(errors, name), errors.RideError), name)

    def test_none_stands_under_another(self):
        for name in NAMES:
            for other in NAMES:
                if name != other:
                    self.assertFalse(issubclass(getattr(errors, name), getattr(errors, other)), (name, other))

    def test_ride_error_is_a_value_error(self):
        self.assertTrue(issubclass(errors.RideError, ValueError))
        for name in NAMES:
            self.assertIsNot(getattr(errors, name), errors.RideError)

    def test_no_text_tells_its_line(self):
        self.assertEqual(errors.NoText(7).line, 7)
        with self.assertRaises(errors.RideError) as caught:
            raise errors.NoText(1)
        self.assertEqual(caught.exception.line, 1)

    def test_the_others_can_be_raised_with_or_without_words(self):
        for name in NAMES + ("RideError",):
            if name != "NoText":
                with self.assertRaises(errors.RideError):
                    raise getattr(errors, name)("words")
                with self.assertRaises(errors.RideError):
                    raise getattr(errors, name)()


class Interface(unittest.TestCase):
    LISTED = (
        (webs, "web_of", "places lines"),
        (webs, "ends_at", "web place"),
        (webs, "parts_of", "web"),
        (webs, "with_line", "web one other company"),
        (webs, "without_line", "web line"),
        (webs, "painted", "web line company"),
        (webs, "merged", "web company other"),
        (webs, "loosened", "web end"),
        (wants, "want_at", "web place"),
        (wants, "wants", "web"),
        (wants, "plan_at", "web place"),
        (wants, "plan_shows", "web place plan"),
        (wants, "plans_counted", "web place"),
        (rides, "ride_is", "web ride"),
        (rides, "round_is", "web ride"),
        (rides, "places_of", "web ride"),
        (rides, "about", "web ride"),
        (rides, "begun_at", "web ride number"),
        (rides, "least_round", "web ride"),
        (rides, "made_one", "web one other"),
        (riding, "riding_is", "web riding"),
        (riding, "fewest", "web"),
        (riding, "riding", "web"),
        (riding, "shown_by", "web paper"),
        (riding, "paper_of", "web"),
        (told, "ride_by", "web first last"),
        (told, "round_of", "web"),
        (told, "one_ride", "web"),
        (added, "new_needed", "web"),
        (added, "new_lines", "web company"),
        (turnings, "turnings", "web ride"),
        (turnings, "turned", "web ride turning"),
        (turnings, "all_rounds", "web"),
        (turnings, "row_to", "web one other"),
        (turnings, "heaps", "web"),
        (texts, "web_text", "web"),
        (texts, "ride_text", "ride"),
        (texts, "read_web", "text"),
        (texts, "read_ride", "text"),
    )

    def test_functions_have_their_arguments_and_stand_in_their_files(self):
        for module, name, arguments in self.LISTED:
            function = getattr(module, name)
            self.assertEqual(list(inspect.signature(function).parameters), arguments.split(), name)
            self.assertEqual(function.__module__, module.__name__, name)

    def test_first_and_last_go_by_name_and_may_be_left_out(self):
        parameters = inspect.signature(told.ride_by).parameters
        for name in ("first", "last"):
            self.assertIs(parameters[name].kind, inspect.Parameter.KEYWORD_ONLY)
            self.assertIsNone(parameters[name].default)

    def test_a_desk_is_made_of_nothing_and_says_a_row(self):
        self.assertEqual(desk.Desk.__module__, "changeride.desk")
        self.assertEqual(list(inspect.signature(desk.Desk).parameters), [])
        self.assertIn("say", vars(desk.Desk))
        self.assertEqual(list(inspect.signature(desk.Desk().say).parameters), ["row"])

    def test_errors_stand_in_their_file(self):
        for name in NAMES + ("RideError",):
            self.assertEqual(getattr(errors, name).__module__, "changeride.errors", name)


if __name__ == "__main__":
    unittest.main()
