import unittest

from owntimes import errors

BASES = {"WrongValue": ValueError, "WrongName": LookupError, "NoAnswer": ArithmeticError}
LISTED = {
    "InvalidPeriod": ("WrongValue", ("given",)),
    "InvalidNumber": ("WrongValue", ("given",)),
    "InvalidText": ("WrongValue", ("given",)),
    "InvalidName": ("WrongValue", ("given",)),
    "InvalidHands": ("WrongValue", ("given",)),
    "InvalidStock": ("WrongValue", ("given",)),
    "InvalidFlag": ("WrongValue", ("given",)),
    "InvalidOutlet": ("WrongValue", ("given",)),
    "InvalidIndex": ("WrongValue", ("given",)),
    "InvalidTimes": ("WrongValue", ("given",)),
    "InvalidClaim": ("WrongValue", ("given",)),
    "NotLags": ("WrongValue", ("given",)),
    "NotALine": ("WrongValue", ("given",)),
    "NotALink": ("WrongValue", ("given",)),
    "InvalidNumbers": ("WrongValue", ("index",)),
    "InvalidStations": ("WrongValue", ("index",)),
    "InvalidLinks": ("WrongValue", ("index",)),
    "InvalidTasks": ("WrongValue", ("index",)),
    "InvalidNames": ("WrongValue", ("index",)),
    "UnknownName": ("WrongName", ("given",)),
    "Taken": ("WrongName", ("given",)),
    "InUse": ("WrongName", ("index",)),
    "TooMany": ("NoAnswer", ("limit",)),
    "Stuck": ("NoAnswer", ("ring",)),
    "EarlyLink": ("NoAnswer", ("index",)),
    "NothingToUndo": ("NoAnswer", ()),
    "NotAsked": ("NoAnswer", ("index",)),
    "Broken": ("NoAnswer", ("index", "shown")),
}
VALUES = (None, 0, -7, True, "a", "", b"x", (), (1, (2, 3)), [1], {"a": []}, object(), ValueError, ValueError("x"))


class ErrorsTest(unittest.TestCase):
    def made_in_all_ways(self, name, values):
        kind = getattr(errors, name)
        words = LISTED[name][1]
        by_name = dict(zip(words, values))
        made = [kind(*values), kind(**by_name), kind(**dict(reversed(list(by_name.items()))))]
        if len(words) > 1:
            made.append(kind(values[0], **{words[1]: values[1]}))
        return made

    def test_attributes_by_position_and_by_name(self):
        for name, (_, words) in LISTED.items():
            for at in range(len(VALUES)):
                values = [VALUES[(at + k) % len(VALUES)] for k in range(len(words))]
                for error in self.made_in_all_ways(name, values):
                    for word, value in zip(words, values):
                        self.assertIs(getattr(error, word), value, name)

    def test_no_other_attributes(self):
        for name, (_, words) in LISTED.items():
            for error in self.made_in_all_ways(name, [1] * len(words)):
                self.assertEqual(sorted(vars(error)), sorted(words), name)

    def test_attributes_are_asked_for(self):
        for name, (_, words) in LISTED.items():
            if words:
                with self.assertRaises(TypeError):
                    getattr(errors, name)()
            with self.assertRaises(TypeError):
                getattr(errors, name)(*[1] * (len(words) + 1))

    def test_each_has_its_base_and_no_other(self):
        for name, (base, words) in LISTED.items():
            kind, under = getattr(errors, name), getattr(errors, base)
            self.assertEqual(kind.__bases__, (under,), name)
            self.assertEqual(under.__bases__, (BASES[base],), name)
            self.assertEqual(kind.__mro__[:3], (kind, under, BASES[base]), name)
            self.assertEqual((kind.__name__, kind.__module__), (name, "owntimes.errors"))

    def test_each_is_caught_by_its_own_classes_alone(self):
        for name, (base, words) in LISTED.items():
            error = getattr(errors, name)(*[1] * len(words))
            found = [other for other in [*LISTED, *BASES] if isinstance(error, getattr(errors, other))]
            self.assertEqual(found, [name, base])
            for caught in (getattr(errors, name), getattr(errors, base), BASES[base]):
                with self.assertRaises(caught):
                    raise error
            for plain in BASES.values():
                self.assertEqual(isinstance(error, plain), plain is BASES[base], name)

    def test_nothing_is_missing_and_nothing_is_more(self):
        found = [name for name, value in vars(errors).items() if isinstance(value, type)]
        self.assertEqual(sorted(found), sorted([*LISTED, *BASES]))
        for name in found:
            self.assertTrue(name in BASES or "__init__" in vars(getattr(errors, name)), name)

    def test_base_classes_are_made_without_attributes(self):
        for name in BASES:
            self.assertEqual(vars(getattr(errors, name)()), {})

    def test_errors_have_a_text(self):
        for name, (_, words) in LISTED.items():
            self.assertTrue(str(getattr(errors, name)(*[object()] * len(words))), name)


if __name__ == "__main__":
    unittest.main()
