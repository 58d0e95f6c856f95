"""What all refusals have in common."""

import copy
import unittest

from tagmachine.errors import BadCell, BadFuel, BadProgram, BadRooms, BadText, BadWord, Over, TagError

ERRORS = (BadProgram, BadWord, BadRooms, BadFuel, BadCell, Over, BadText)


class Refusing(unittest.TestCase):
    def refused(self, error, values, call, *told):
        """Ask twice, see the same refusal, of its own class alone, and that nothing handed in was changed."""
        before = copy.deepcopy(told)
        for _ in range(2):
            with self.assertRaises(error, msg=told) as caught:
                call(*told)
            self.assertIsInstance(caught.exception, TagError)
            self.assertIsInstance(caught.exception, ValueError)
            self.assertEqual([other for other in ERRORS if isinstance(caught.exception, other)], [error])
            for name, value in values.items():
                self.assertEqual(getattr(caught.exception, name), value, told)
        self.assertEqual(told, before)
