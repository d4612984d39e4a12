"""The error classes."""

import unittest

from hushweb import errors

NAMES = """InBand InvalidBand InvalidCoins InvalidIndex InvalidLine InvalidMessages InvalidModulus InvalidName
InvalidNumber InvalidNumbers InvalidOpening InvalidPeople InvalidSayings InvalidSeries InvalidTies InvalidTimetable
InvalidView InvalidWeb InvalidWeights Mismatch NameIsTaken NoCoins NoTalk NoTie NoVotes NobodyThere NothingToUndo
SamePerson SmallModulus TooMany UnknownName UnknownPerson""".split()


class Errors(unittest.TestCase):
    def test_hush_error_is_a_value_error(self):
        self.assertEqual(errors.HushError.__bases__, (ValueError,))
        for text in ["", "x", "more words, than one", "line\nfeed"]:
            self.assertEqual(str(errors.HushError(text)), text)

    def test_all_others_are_directly_below_hush_error(self):
        self.assertEqual(len(set(NAMES)), 32)
        for name in NAMES + ["ParseError"]:
            error = getattr(errors, name)
            self.assertEqual(error.__bases__, (errors.HushError,), name)
            self.assertEqual((error.__name__, error.__module__), (name, "hushweb.errors"))

    def test_there_are_no_further_classes(self):
        found = [name for name, value in vars(errors).items() if isinstance(value, type)]
        self.assertEqual(sorted(found), sorted(NAMES + ["HushError", "ParseError"]))

    def test_none_is_one_of_another(self):
        for name in NAMES:
            error = getattr(errors, name)("why")
            for other in NAMES + ["ParseError"]:
                self.assertEqual(isinstance(error, getattr(errors, other)), name == other)

    def test_str_is_the_string_it_was_made_with(self):
        for name in NAMES:
            for text in ["", "x", "'quoted'", "more words, than one", "line\nfeed", "{0}"]:
                error = getattr(errors, name)(text)
                self.assertEqual(str(error), text)

    def test_raised_and_caught(self):
        for name in NAMES:
            with self.assertRaises(errors.HushError) as caught:
                raise getattr(errors, name)("why " + name)
            self.assertIs(type(caught.exception), getattr(errors, name))
            self.assertEqual(str(caught.exception), "why " + name)

    def test_parse_error_keeps_its_line(self):
        for line in [0, 1, 2, 3, 10 ** 39, -1]:
            for error in [errors.ParseError(line), errors.ParseError(line=line)]:
                self.assertIs(type(error.line), int)
                self.assertEqual(error.line, line)
                self.assertIsInstance(str(error), str)
        one, other = errors.ParseError(1), errors.ParseError(2)
        self.assertEqual((one.line, other.line), (1, 2))


if __name__ == "__main__":
    unittest.main()
