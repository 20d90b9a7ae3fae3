"""What benches show of themselves, and how calls end, for the tests."""

import unittest

from blindpush.benches import CostBench
from tests.sessions import shown

# Values that are not numbers.
NO_NUMBERS = (
    None, True, False, "", "0", "1", "a text", [], [0], [1], {}, {"a": 1}, (), (0,), (1,), ((0, 0),), ("push", 0, 0),
)


class WatchError(Exception):
    """An exception that the package does not know."""


def state_of(bench):
    """All that a bench shows of itself, in every version."""
    versions = range(len(bench) + 1)
    state = [str(bench), len(bench), bench.edits(), bench.goal, bench.needed, bench.is_known, bench.possible()]
    state.append([bench.possible(version=version) for version in versions])
    if isinstance(bench, CostBench):
        state.extend([bench.budget, bench.left])
    return repr(state)


def ending(function, *args, **named):
    """What a call returns or raises, as it is shown."""
    try:
        return repr(function(*args, **named))
    except (ValueError, LookupError) as error:
        return shown(error)


class BenchCase(unittest.TestCase):
    def refuse(self, bench, error, function, *args, **named):
        """The call raises the error, which is written as DOC.md does it, and leaves the bench unchanged."""
        before = state_of(bench)
        self.assertEqual(ending(function, *args, **named), "raises " + error)
        self.assertEqual(state_of(bench), before)

    def refuse_value(self, bench, error, function, value, *args, **named):
        """The call with this value as the first argument raises the error with this very value."""
        before = state_of(bench)
        with self.assertRaises(error) as caught:
            function(value, *args, **named)
        self.assertEqual(caught.exception.__class__, error)
        self.assertIs(caught.exception.value, value)
        self.assertEqual(state_of(bench), before)
