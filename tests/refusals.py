"""What the tests of refusals share."""

import unittest

from fareweb import errors
from fareweb.errors import FareError

KINDS = [
    errors.BadLink, errors.BadStop, errors.NoWay, errors.BadPrices, errors.BadZones, errors.PastDay,
]
# Of more figures than Python writes out, so that no message may name it.
LARGE = 10 ** 5000


class RefusalCase(unittest.TestCase):
    def assert_refused(self, kind, ask, *told):
        """The asking is refused by just this kind, which FareError and ValueError take too."""
        for taken in (kind, FareError, ValueError):
            self.assertRaises(taken, ask, *told)
        try:
            ask(*told)
        except FareError as refusal:
            taken = [other for other in KINDS if isinstance(refusal, other)]
            self.assertEqual(taken, [kind])
