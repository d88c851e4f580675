"""The errors: their fields, and what stands below what."""

import inspect

from rowgames import errors
from helpers import Case, odd_values

FIELDS = {
    "BadSigns": ("part",), "BadRow": ("at",), "BadRule": ("part",), "BadBook": ("at",), "Heavier": ("at",),
    "Unlessened": ("old", "new"), "BadMove": ("part",), "BadMachine": ("part",), "BadGame": ("part",),
    "BadSeat": ("seat",), "OtherSigns": ("part",), "BadNumber": ("part",), "BadText": ("line", "word"),
    "BadLine": ("word",), "TooMany": ("what", "most"), "NoMove": ("row",), "NotWon": ("row",),
    "NotRight": ("row", "seat"), "NotKept": ("row",), "NotThere": ("what",), "NothingPlayed": (),
}
NO_ANSWERS = ("TooMany", "NoMove", "NotWon", "NotRight", "NotKept", "NotThere", "NothingPlayed")


class TestErrors(Case):
    def test_all_errors_are_there_and_no_others(self):
        found = [name for name, value in vars(errors).items() if inspect.isclass(value)]
        self.assertEqual(sorted(found), sorted(list(FIELDS) + ["GameError", "BadInput", "NoAnswer"]))

    def test_the_groups(self):
        self.assertEqual(errors.GameError.__bases__, (ValueError,))
        self.assertEqual(errors.BadInput.__bases__, (errors.GameError,))
        self.assertEqual(errors.NoAnswer.__bases__, (errors.GameError,))

    def test_each_error_is_of_its_own_group_alone(self):
        for name in FIELDS:
            error = getattr(errors, name)
            mine, other = errors.BadInput, errors.NoAnswer
            if name in NO_ANSWERS:
                mine, other = other, mine
            self.assertTrue(issubclass(error, mine), name)
            self.assertTrue(issubclass(error, ValueError), name)
            self.assertFalse(issubclass(error, other), name)

    def test_none_stands_below_another_one(self):
        for name in FIELDS:
            for other in FIELDS:
                if name != other:
                    self.assertFalse(issubclass(getattr(errors, name), getattr(errors, other)), (name, other))

    def test_fields_by_position_and_by_name(self):
        for name, fields in FIELDS.items():
            for value in odd_values():
                error = getattr(errors, name)
                values = [value] + [object() for _ in fields[1:]]
                values = values[:len(fields)]
                for made in (error(*values), error(**dict(zip(fields, values)))):
                    self.assertEqual(sorted(vars(made)), sorted(fields))
                    for field, kept in zip(fields, values):
                        self.assertIs(getattr(made, field), kept)

    def test_the_order_of_the_fields_among_names(self):
        made = errors.NotRight("x", seat=1)
        self.assertEqual((made.row, made.seat), ("x", 1))
        made = errors.TooMany(most=3, what="rows")
        self.assertEqual((made.what, made.most), ("rows", 3))
        made = errors.BadText(4, 5)
        self.assertEqual((made.line, made.word), (4, 5))
        made = errors.Unlessened(6, 7)
        self.assertEqual((made.old, made.new), (6, 7))

    def test_fields_are_needed(self):
        for name, fields in FIELDS.items():
            with self.assertRaises(TypeError):
                getattr(errors, name)(*range(len(fields) + 1))
            if fields:
                with self.assertRaises(TypeError):
                    getattr(errors, name)()

    def test_they_can_be_raised_and_caught_by_group(self):
        for name, fields in FIELDS.items():
            with self.assertRaises(errors.NoAnswer if name in NO_ANSWERS else errors.BadInput) as caught:
                raise getattr(errors, name)(*fields)
            self.assertTrue(str(caught.exception))
