"""How long a call may take."""

import time

SECONDS = 5


def soon(test, function, *arguments):
    """Return what the function returns, after a check that it took a few seconds at most."""
    start = time.perf_counter()
    found = function(*arguments)
    test.assertLess(time.perf_counter() - start, SECONDS)
    return found
