"""Runs each file test_*.py below some folders in a process of its own and adds up the counts."""

import os
import subprocess
import sys
import unittest


def test_files(folder):
    found = []
    for place, _, names in os.walk(folder):
        for name in names:
            if name.startswith("test_") and name.endswith(".py"):
                found.append(os.path.join(place, name))
    return sorted(found)


def run_file(path):
    """Runs one file and prints, as the last line, how many of its tests ran and how many failed."""
    place, name = os.path.split(os.path.abspath(path))
    suite = unittest.TestLoader().discover(place, pattern=name)
    result = unittest.TextTestRunner(stream=sys.stdout, verbosity=1).run(suite)
    bad = {str(getattr(test, "test_case", test)) for test, _ in result.failures + result.errors}
    failed = len(bad) + len(result.unexpectedSuccesses)
    print(f"counts {max(result.testsRun, failed)} {failed}")


def counts_of(path):
    """The numbers of passed and failed tests of a file; a file that runs no test has failed."""
    environment = dict(os.environ, PYTHONPATH=os.getcwd())
    command = [sys.executable, os.path.abspath(__file__), "--file", path]
    ran = subprocess.run(command, env=environment, stdin=subprocess.DEVNULL,
                         stdout=subprocess.PIPE, stderr=subprocess.STDOUT)
    lines = ran.stdout.decode("utf-8", "replace").splitlines()
    words = lines[-1].split() if lines else []
    good = ran.returncode == 0 and len(words) == 3 and words[0] == "counts"
    count, failed = (int(words[1]), int(words[2])) if good else (0, 1)
    if count == 0:
        failed = 1
    print(f"{path}: {count - failed if count else 0} passed, {failed} failed")
    if failed:
        print("\n".join(lines))
    return (count - failed if count else 0), failed


def main(folders):
    passed = failed = 0
    for folder in folders:
        for path in test_files(folder):
            good, bad = counts_of(path)
            passed += good
            failed += bad
    print(f"{passed} passed, {failed} failed", flush=True)
    return 0 if passed and not failed else 1


if __name__ == "__main__":
    if sys.argv[1] == "--file":
        run_file(sys.argv[2])
    else:
        sys.exit(main(sys.argv[1:]))
