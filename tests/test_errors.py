import unittest

from ontoworks import errors

CLASSES = (
    "OntoError", "FaultyText", "NoSuchAxiom", "NoSuchConcept", "TooLarge", "NoSuchVersion", "AlreadyWatched",
    "NotWatched", "TooManyQuestions", "NothingToTakeBack", "WrongCount",
)
WITHOUT_FIELDS = CLASSES[5:]


class ErrorsTest(unittest.TestCase):
    def test_the_classes_are_those_of_the_interface(self):
        found = [name for name in vars(errors) if isinstance(vars(errors)[name], type)]
        self.assertEqual(sorted(found), sorted(CLASSES))
        for name in CLASSES:
            self.assertEqual(vars(errors)[name].__module__, "ontoworks.errors")

    def test_all_stand_under_onto_error_and_it_under_value_error(self):
        self.assertTrue(issubclass(errors.OntoError, ValueError))
        for name in CLASSES:
            self.assertTrue(issubclass(vars(errors)[name], errors.OntoError), name)

    def test_none_but_onto_error_has_another_one_under_it(self):
        for upper in CLASSES[1:]:
            for lower in CLASSES:
                if upper != lower:
                    self.assertFalse(issubclass(vars(errors)[lower], vars(errors)[upper]), (lower, upper))

    def test_faulty_text_has_line_column_and_reason(self):
        for error in (errors.FaultyText(2, 3, "expected ;"),
                      errors.FaultyText(line=2, column=3, reason="expected ;")):
            self.assertEqual((error.line, error.column, error.reason), (2, 3, "expected ;"))

    def test_no_such_axiom_and_no_such_concept_have_the_name(self):
        self.assertEqual(errors.NoSuchAxiom("first").name, "first")
        self.assertEqual(errors.NoSuchConcept("person").name, "person")

    def test_too_large_has_the_count(self):
        self.assertEqual(errors.TooLarge(13).count, 13)

    def test_fields_are_needed(self):
        for name in ("FaultyText", "NoSuchAxiom", "NoSuchConcept", "TooLarge"):
            with self.assertRaises(TypeError):
                vars(errors)[name]()

    def test_fields_of_each_object_and_no_others(self):
        self.assertEqual(vars(errors.FaultyText(1, 2, "x")), {"line": 1, "column": 2, "reason": "x"})
        self.assertEqual(vars(errors.NoSuchAxiom("a")), {"name": "a"})
        self.assertEqual(vars(errors.NoSuchConcept("a")), {"name": "a"})
        self.assertEqual(vars(errors.TooLarge(9)), {"count": 9})
        for name in WITHOUT_FIELDS:
            self.assertEqual(vars(vars(errors)[name]()), {}, name)

    def test_each_can_be_raised_and_caught_as_onto_error(self):
        made = [errors.FaultyText(1, 1, "x"), errors.NoSuchAxiom("a"), errors.NoSuchConcept("a"), errors.TooLarge(9)]
        made += [vars(errors)[name]() for name in WITHOUT_FIELDS]
        for error in made:
            with self.assertRaises(errors.OntoError) as caught:
                raise error
            self.assertIs(caught.exception, error)


if __name__ == "__main__":
    unittest.main()
