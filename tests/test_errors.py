from someoneout import errors
from tests.support import Case

FAMILIES = {
    "PaperError": {"InvalidPaper": ("word", "at")},
    "HouseError": {"NotUsable": ("word", "at"), "Unlevel": ("fault",), "Crowded": ("lot",), "Apart": ("lot",)},
    "TillError": {"Full": ("zone", "lot"), "NotSingle": ("lot",), "Uneven": ("place",), "Staying": ("people",)},
    "LiveError": {"InvalidEvent": ("event", "reason"), "NothingToUndo": ("steps",)},
    "TextError": {"InvalidText": ("line", "field"), "InvalidRow": ("row",)},
}


class Errors(Case):
    def test_families(self):
        self.assertEqual(errors.OutError.__bases__, (ValueError,))
        for family, members in FAMILIES.items():
            self.assertEqual(getattr(errors, family).__bases__, (errors.OutError,))
            for name in members:
                self.assertEqual(getattr(errors, name).__bases__, (getattr(errors, family),), name)

    def test_no_other_errors(self):
        wanted = {"OutError"} | set(FAMILIES) | {name for members in FAMILIES.values() for name in members}
        self.assertEqual({name for name in vars(errors) if not name.startswith("_")}, wanted)

    def test_fields_are_the_very_objects(self):
        for members in FAMILIES.values():
            for name, fields in members.items():
                things = [[name, at, object()] for at in range(len(fields))]
                by_place = getattr(errors, name)(*things)
                by_name = getattr(errors, name)(**dict(zip(fields, things)))
                for error in (by_place, by_name):
                    self.assertEqual(tuple(vars(error)), fields)
                    for field, thing in zip(fields, things):
                        self.assertIs(getattr(error, field), thing)

    def test_just_the_fields(self):
        for members in FAMILIES.values():
            for name, fields in members.items():
                self.assertRaises(TypeError, getattr(errors, name), *range(len(fields) - 1))
                self.assertRaises(TypeError, getattr(errors, name), *range(len(fields) + 1))
