"""What the tests share: a test case that looks at errors closely, and values that fit nowhere."""

import contextlib
import itertools
import signal
import unittest

BIG = 10 ** 30 - 1
ODD_VALUES = [None, True, False, "", "ab", "0", b"ab", {}, {0: 1}, (0.0,), [None], object(), 1.0, set()]
NO_LISTS = [value for value in ODD_VALUES if not isinstance(value, (list, tuple))]
BAD_SHAPES = [[], (), [0], [5], [-1], [2, 0], [2, 5], [1, 1, 1, 1], [4, 4, 2], [3, 3, 2], [4, 2, 4], [True],
              [2, True], [False, 2], [2, None], ["2"], [2.0], [[2]], [(2, 2)], "22", b"22", "2", 2, 0, None, True,
              {2: 2}, {}, set(), {2, 3}, 2.0, object(), [BIG], range(2, 4)]
GOOD_SHAPES = [list(shape) for many in [1, 2, 3] for shape in itertools.product([1, 2, 3, 4], repeat=many)
               if len(shape) < 3 or shape[0] * shape[1] * shape[2] <= 16]


class Case(unittest.TestCase):
    def fails(self, error, attributes, call, *args, **more):
        """A call raises just this error, with just these attributes."""
        with self.assertRaises(error) as caught:
            call(*args, **more)
        self.assertIs(type(caught.exception), error)
        found = vars(caught.exception)
        self.assertEqual(list(found), list(attributes))
        for name, value in attributes.items():
            self.assertIs(type(found[name]), type(value))
            self.assertTrue(found[name] is value or found[name] == value)

    def same_value(self, found, expected):
        """Two values are equal, and of the same kinds down to their last items."""
        self.assertEqual(found, expected)
        self.assertEqual(repr(found), repr(expected))

    @contextlib.contextmanager
    def ends_within(self, seconds):
        """The block fails, instead of going on, if it has not ended after so many seconds."""
        def stop(number, frame):
            raise AssertionError(f"not ended after {seconds} seconds")

        before = signal.signal(signal.SIGALRM, stop)
        signal.setitimer(signal.ITIMER_REAL, seconds)
        try:
            yield
        finally:
            signal.setitimer(signal.ITIMER_REAL, 0)
            signal.signal(signal.SIGALRM, before)
