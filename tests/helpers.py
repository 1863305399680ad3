"""What several test files share: calls with lists and tuples, and ways to look at values."""

import unittest

from moveseen.families import Family

FAMILY_ATTRIBUTES = ("symbols", "positions", "outputs", "given", "changes", "constants", "sources")


def rows_as(value, outer, inner):
    """A row with `outer` as its kind, and all rows within it with `inner` as theirs."""
    if not isinstance(value, (list, tuple)):
        return value
    return outer(rows_as(part, inner, inner) for part in value)


def look_of(value):
    """All that can be seen of a value, with the kinds of its rows."""
    if isinstance(value, Family):
        return repr([getattr(value, name) for name in FAMILY_ATTRIBUTES])
    if isinstance(value, (list, tuple)):
        return type(value).__name__, [look_of(part) for part in value]
    return repr(value)


def has_only_tuples(value):
    if isinstance(value, tuple):
        return all(has_only_tuples(part) for part in value)
    return value is None or type(value) in (int, str)


class CallCase(unittest.TestCase):
    """Calls are made with tuples, with lists, and with both mixed; arguments must stay the same."""

    def kinds_of(self, arguments):
        for outer in (tuple, list):
            for inner in (tuple, list):
                yield [rows_as(argument, outer, inner) for argument in arguments]

    def check_call(self, wanted, function, *arguments):
        for row in self.kinds_of(arguments):
            before = look_of(row)
            with self.subTest(function=function.__name__, arguments=before):
                told = function(*row)
                self.assertEqual(told, wanted)
                self.assertTrue(has_only_tuples(told), told)
                self.assertEqual(look_of(row), before)

    def check_error(self, kind, attributes, function, *arguments):
        for row in self.kinds_of(arguments):
            before = look_of(row)
            with self.subTest(function=function.__name__, arguments=before):
                with self.assertRaises(kind) as caught:
                    function(*row)
                self.assertIs(type(caught.exception), kind)
                for name, wanted in attributes.items():
                    self.assertEqual(getattr(caught.exception, name), wanted)
                self.assertEqual(look_of(row), before)
