"""Runs the tests beside this file and those under ../shared/tests, and prints how many passed."""

import os
import sys
import unittest

HERE = os.path.dirname(os.path.abspath(__file__))
ROOT = os.path.dirname(HERE)
SHARED = os.path.join(os.path.dirname(ROOT), "shared", "tests")


class CountingResult(unittest.TextTestResult):
    """Counts the tests that passed; one with a failed part has not."""

    def __init__(self, *args, **more):
        super().__init__(*args, **more)
        self.passed = 0

    def addSuccess(self, test):
        super().addSuccess(test)
        self.passed += 1


def shared_files():
    """The folders under ../shared/tests that hold a test."""
    if not os.path.isdir(SHARED):
        return []
    return sorted(
        folder for folder, _, names in os.walk(SHARED)
        if any(name.startswith("test_") and name.endswith(".py") for name in names)
    )


def tests_of(folder, top):
    """The tests in a folder; a fresh loader for each, since a loader remembers its top folder."""
    return unittest.TestLoader().discover(folder, pattern="test_*.py", top_level_dir=top)


def main():
    suite = unittest.TestSuite([tests_of(HERE, ROOT)])
    own = suite.countTestCases()
    for folder in shared_files():
        suite.addTest(tests_of(folder, folder))
    result = unittest.TextTestRunner(verbosity=1, resultclass=CountingResult).run(suite)
    failed = result.testsRun - result.passed - len(result.skipped)
    good = result.wasSuccessful() and own > 0 and failed == 0
    sys.stderr.flush()
    print(f"{result.passed} passed, {failed} failed, {len(result.skipped)} skipped", flush=True)
    return 0 if good else 1


if __name__ == "__main__":
    if ROOT not in sys.path:
        sys.path.insert(0, ROOT)
    sys.exit(main())
