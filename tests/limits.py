"""Limits of time for tests."""

import signal
from contextlib import contextmanager


@contextmanager
def in_time(case, seconds):
    """Fail, rather than go on for ever, where an answer takes too long."""
    def stop(number, frame):
        case.fail(f"no answer within {seconds} seconds")

    before = signal.signal(signal.SIGALRM, stop)
    signal.alarm(seconds)
    try:
        yield
    finally:
        signal.alarm(0)
        signal.signal(signal.SIGALRM, before)
