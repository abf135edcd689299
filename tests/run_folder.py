"""Run all test_*.py of the folder that is named, as unittest does, and tell how many passed and failed."""

import pathlib
import sys
import unittest


def suite_of(folder):
    """All tests of the folder; one with an __init__.py is loaded as a package."""
    top = folder.parent if (folder / "__init__.py").exists() else folder
    return unittest.TestLoader().discover(str(folder), top_level_dir=str(top))


def main(name):
    """The exit code: 0 if there are tests and all pass."""
    result = unittest.TextTestRunner(stream=sys.stdout, verbosity=1).run(suite_of(pathlib.Path(name).resolve()))
    failed = len(result.failures) + len(result.errors) + len(result.unexpectedSuccesses)
    print(f"{result.testsRun - failed} passed, {failed} failed", flush=True)
    return 0 if result.testsRun and result.wasSuccessful() else 1


if __name__ == "__main__":
    sys.exit(main(sys.argv[1]))
