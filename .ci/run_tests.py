"""Runs the tests of a folder whose files' names match, as unittest finds them.

Unlike unittest's own command it fails, too, where there is nothing to run: a
test file that is silently passed over would look like one that passes.
"""

import sys
import unittest


def main(folder, top, pattern):
    tests = unittest.defaultTestLoader.discover(folder, pattern, top)
    result = unittest.TextTestRunner().run(tests)
    return 0 if result.wasSuccessful() and (result.testsRun or result.skipped) else 1


if __name__ == "__main__":
    sys.exit(main(*sys.argv[1:]))
