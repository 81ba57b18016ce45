"""What the tests of desks share."""

import unittest

from chambercuts.errors import NothingToUndo, Undefined
from tests.samples import unchanged


def shown(desk):
    """Return all that a desk shows, as a picture."""
    return (
        unchanged(desk.system), unchanged(desk.watched), unchanged(desk.many), unchanged(desk.report()),
        [unchanged(desk.claim(question)) for question in desk.watched],
        [unchanged(desk.paper(question)) for question in desk.watched],
    )


def left_to_redo(desk):
    """Return how many deeds a desk can redo, by doing so; it is left as it was but for what it keeps."""
    many = 0
    while True:
        try:
            desk.redo()
        except NothingToUndo:
            break
        many += 1
    for _ in range(many):
        desk.undo()
    return many


class Refusing(unittest.TestCase):

    def assert_raises(self, error, value, desk, name, *arguments):
        """Assert that a call raises this error with this value and changes nothing."""
        before = shown(desk), [unchanged(argument) for argument in arguments]
        attribute = {Undefined: "what", NothingToUndo: "word"}.get(error, "value")
        with self.assertRaises(error) as caught:
            getattr(desk, name)(*arguments)
        self.assertIs(type(caught.exception), error)
        if attribute == "value":
            self.assertIs(caught.exception.value, value)
        else:
            self.assertEqual(getattr(caught.exception, attribute), value)
        self.assertEqual((shown(desk), [unchanged(argument) for argument in arguments]), before)
