"""Run the tests below the given folders, and print how many passed and failed.

Each folder of tests has a process of its own, so that files of the same name in
two folders do not stand in for each other.
"""

import os
import subprocess
import sys
import unittest

ROOT = os.path.dirname(os.path.dirname(os.path.abspath(__file__)))


def is_test_file(name):
    return name.startswith("test_") and name.endswith(".py")


def folders_with_tests(root):
    """The folder and those below it that hold a test file, in a fixed sequence."""
    return sorted(folder for folder, _, names in os.walk(root)
                  if any(is_test_file(name) for name in names))


def run_folder(folder):
    """Run the test files of one folder, and print their counts in the last row."""
    sys.path[:0] = [folder, ROOT]
    loader = unittest.TestLoader()
    suite = unittest.TestSuite()
    for name in sorted(os.listdir(folder)):
        if is_test_file(name):
            suite.addTests(load(loader, name[:-len(".py")]))
    result = unittest.TextTestRunner(stream=sys.stdout, verbosity=1).run(suite)
    failures = [test for test, _ in result.failures + result.errors]
    failures += result.unexpectedSuccesses
    # Several parts of one test can fail: the test counts once.
    failed = len({id(getattr(test, "test_case", test)) for test in failures})
    passed = max(0, result.testsRun - failed - len(result.skipped))
    print(f"\n{passed} {failed}")


def load(loader, name):
    """The tests of a file; one that fails if the file cannot be imported."""
    try:
        return loader.loadTestsFromModule(__import__(name))
    except unittest.SkipTest:
        return []
    except Exception as error:
        def fail():
            raise AssertionError(f"{name} cannot be imported") from error
        return [unittest.FunctionTestCase(fail, description=name)]


def counts_of(folder):
    """How many tests of a folder passed and failed, by a process of their own."""
    print(f"== {folder}", flush=True)
    command = [sys.executable, "-B", os.path.abspath(__file__), "--folder", os.path.abspath(folder)]
    done = subprocess.run(command, cwd=ROOT, stdout=subprocess.PIPE, stderr=subprocess.STDOUT,
                          text=True, check=False)
    rows = done.stdout.rstrip("\n").split("\n")
    print("\n".join(rows[:-1]), flush=True)
    words = rows[-1].split(" ")
    if done.returncode != 0 or len(words) != 2 or not all(word.isdigit() for word in words):
        print(rows[-1])
        print(f"the tests of {folder} did not come to their end")
        return 0, 1
    return int(words[0]), int(words[1])


def main(roots):
    counts = [counts_of(folder) for root in roots for folder in folders_with_tests(root)]
    passed = sum(count[0] for count in counts)
    failed = sum(count[1] for count in counts)
    print(f"{passed} passed, {failed} failed")
    return 0 if passed and not failed else 1


if __name__ == "__main__":
    if sys.argv[1] == "--folder":
        run_folder(sys.argv[2])
    else:
        sys.exit(main(sys.argv[1:]))
