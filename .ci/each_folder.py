"""Runs the tests of each folder in a process of its own, so that files of one name do not meet."""

import os
import subprocess
import sys
import unittest

ROOT = os.path.dirname(os.path.dirname(os.path.abspath(__file__)))
SHARED = os.path.join(os.path.dirname(ROOT), "shared", "tests")


def folders_with_tests(top):
    """The folders at and below top that hold a test."""
    found = []
    for folder, _, files in os.walk(top):
        if any(name.startswith("test_") and name.endswith(".py") for name in files):
            found.append(folder)
    return sorted(found)


def run_folder(folder, top):
    """Runs the tests of one folder; the last row printed is how many ran, and how many of them failed."""
    suite = unittest.defaultTestLoader.discover(folder, "test_*.py", top)
    told = unittest.TextTestRunner(stream=sys.stdout).run(suite)
    print(told.testsRun, len(told.failures) + len(told.errors) + len(told.unexpectedSuccesses))


def counted(folder, top):
    """(how many passed, how many failed) of a folder; one that cannot be run at all has failed."""
    there = dict(os.environ, PYTHONPATH=ROOT)
    ended = subprocess.run([sys.executable, __file__, folder, top], cwd=ROOT, env=there, stdout=subprocess.PIPE, text=True)
    print(f"== {folder}\n{ended.stdout}", flush=True)
    rows = ended.stdout.splitlines()
    if ended.returncode != 0 or not rows:
        return (0, 1)
    ran, failed = map(int, rows[-1].split())
    return (max(0, ran - failed), failed)


def main():
    own = [(folder, ROOT) for folder in folders_with_tests(os.path.join(ROOT, "tests"))]
    shared = [(folder, folder) for folder in folders_with_tests(SHARED)]
    told = [counted(folder, top) for folder, top in own + shared]
    passed, failed = sum(one for one, _ in told), sum(one for _, one in told)
    print(f"{passed} passed, {failed} failed")
    return 0 if passed and not failed else 1


if __name__ == "__main__":
    if len(sys.argv) == 3:
        run_folder(sys.argv[1], sys.argv[2])
    else:
        sys.exit(main())
