"""What several test files need: an assertion about errors, and values that are never valid."""

import unittest


class Odd:
    """Claims to be equal to everything."""

    def __eq__(self, other):
        return True

    __hash__ = None


# None of these is a table, an order, an element of one, an integer or a direction.
NEVER_VALID = (
    None, True, False, "", "up", "place", "01", b"", b"up", [], [1], {}, {0: "up"}, set(), frozenset(),
    (), ((),), (None,), range(2), object(), Odd(), len, int, lambda: 1,
)


class ErrorCase(unittest.TestCase):
    def assert_error(self, error, name, wanted, function, *given, **named):
        """The call raises exactly this error, and its attribute is the wanted value, True not being 1."""
        with self.assertRaises(error) as caught:
            function(*given, **named)
        self.assertIs(type(caught.exception), error)
        found = getattr(caught.exception, name)
        self.assertIs(type(found), type(wanted))
        self.assertEqual(found, wanted)
