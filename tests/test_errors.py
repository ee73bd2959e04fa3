import unittest

from modulehall import errors

PLAIN = ("BadShelf", "BadPath", "BadName", "BadEdition", "BadPlace", "BadSort", "BadNumber", "BadDeed", "NoModule")
ALL = PLAIN + ("BadRows", "BadText", "Fell")


class Errors(unittest.TestCase):
    def test_module_error_derives_from_value_error(self):
        self.assertEqual(errors.ModuleError.__bases__, (ValueError,))

    def test_all_others_are_its_direct_subclasses_and_there_are_no_more(self):
        for word in ALL:
            self.assertEqual(getattr(errors, word).__bases__, (errors.ModuleError,), word)
        self.assertEqual({each.__name__ for each in errors.ModuleError.__subclasses__()}, set(ALL))

    def test_plain_errors_can_be_raised_with_and_without_words(self):
        for word in PLAIN:
            for given in ((), ("why",)):
                with self.assertRaises(errors.ModuleError):
                    raise getattr(errors, word)(*given)

    def test_bad_rows_has_at(self):
        self.assertEqual(errors.BadRows(3).at, 3)
        self.assertEqual(errors.BadRows(at=0).at, 0)
        self.assertIsNone(errors.BadRows(None).at)

    def test_bad_text_has_row(self):
        self.assertEqual(errors.BadText(2).row, 2)
        self.assertEqual(errors.BadText(row=0).row, 0)

    def test_fell_has_word_and_path(self):
        fell = errors.Fell("half", ("a", "b"))
        self.assertEqual((fell.word, fell.path), ("half", ("a", "b")))
        fell = errors.Fell(path=(), word="module")
        self.assertEqual((fell.word, fell.path), ("module", ()))

    def test_the_fields_must_be_given(self):
        for word in ("BadRows", "BadText", "Fell"):
            with self.assertRaises(TypeError):
                getattr(errors, word)()


if __name__ == "__main__":
    unittest.main()
