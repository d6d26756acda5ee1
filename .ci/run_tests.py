"""Runs every test of the project and every test under ../shared/tests, and tells how many passed."""

import os
import sys
import unittest

ROOT = os.path.dirname(os.path.dirname(os.path.abspath(__file__)))
SHARED = os.path.join(os.path.dirname(ROOT), "shared", "tests")


def folders_with_tests(top):
    found = []
    for folder, _, names in os.walk(top):
        if any(name.startswith("test_") and name.endswith(".py") for name in names):
            found.append(folder)
    return sorted(found)


def run(folder):
    suite = unittest.TestLoader().discover(folder, pattern="test_*.py", top_level_dir=folder)
    result = unittest.TextTestRunner(stream=sys.stdout).run(suite)
    # Another folder may have files of the same names, so those of this one are forgotten.
    for name, module in list(sys.modules.items()):
        if (getattr(module, "__file__", None) or "").startswith(folder + os.sep):
            del sys.modules[name]
    bad = len(result.failures) + len(result.errors) + len(result.unexpectedSuccesses)
    return result.testsRun, bad


def main():
    sys.dont_write_bytecode = True
    sys.path.insert(0, ROOT)
    ran = failed = 0
    for top in (os.path.join(ROOT, "tests"), SHARED):
        for folder in folders_with_tests(top):
            print("in", folder, flush=True)
            count, bad = run(folder)
            ran += count
            failed += bad
    print(f"{ran - failed} passed, {failed} failed")
    sys.exit(1 if failed or not ran else 0)


if __name__ == "__main__":
    main()
