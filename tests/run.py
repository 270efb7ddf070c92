"""Runs the tests of each folder that is named, in a process of its own, and counts them.

    python3 tests/run.py FOLDER ..

A folder may hold the same file names as another one. It ends with a line that tells how many
tests passed and how many failed, and with an error if one failed or if none was found.
"""

import os
import subprocess
import sys
import unittest


def run_folder(folder):
    """Runs the tests of one folder; how many passed and how many failed."""
    suite = unittest.TestLoader().discover(folder, pattern="test_*.py", top_level_dir=folder)
    result = unittest.TextTestRunner(stream=sys.stderr, verbosity=1).run(suite)
    failed = len(result.failures) + len(result.errors) + len(result.unexpectedSuccesses)
    if result.testsRun == 0:
        failed += 1
    return max(result.testsRun - failed, 0), failed


def count_folder(folder):
    """The counts of a folder, from a process of its own."""
    done = subprocess.run([sys.executable, os.path.abspath(__file__), "--one", folder], stdout=subprocess.PIPE,
            text=True)
    rows = [row.split() for row in done.stdout.splitlines() if row.startswith("counted ")]
    if len(rows) != 1:
        return 0, 1
    passed, failed = int(rows[0][1]), int(rows[0][2])
    if done.returncode != 0 and failed == 0:
        failed = 1
    return passed, failed


def main():
    if sys.argv[1] == "--one":
        passed, failed = run_folder(sys.argv[2])
        print("counted", passed, failed)
        sys.exit(failed > 0)
    rows = [count_folder(os.path.abspath(folder)) for folder in sys.argv[1:]]
    passed, failed = sum(row[0] for row in rows), sum(row[1] for row in rows)
    print("%d passed, %d failed" % (passed, failed))
    sys.exit(failed > 0 or passed == 0)


if __name__ == "__main__":
    main()
