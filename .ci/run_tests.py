"""Runs the files test_*.py of one folder with unittest, and says how many tests ran."""

import os
import sys
import unittest


def main(folder):
    folder = os.path.abspath(folder)
    sys.path[0] = os.getcwd()
    sys.path.insert(1, folder)
    names = sorted(name[:-3] for name in os.listdir(folder) if name.startswith("test_") and name.endswith(".py"))
    suite = unittest.TestLoader().loadTestsFromNames(names)
    result = unittest.TextTestRunner(stream=sys.stdout).run(suite)
    wrong = len(result.failures) + len(result.errors) + len(result.unexpectedSuccesses)
    skipped = len(result.skipped)
    print(f"{max(0, result.testsRun - wrong - skipped)} passed, {wrong} failed, {skipped} skipped", flush=True)
    if not result.wasSuccessful():
        return 1
    if result.testsRun == 0:
        print("no test ran in", folder)
        return 1
    return 0


if __name__ == "__main__":
    sys.exit(main(sys.argv[1]))
