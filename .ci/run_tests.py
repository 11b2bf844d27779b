"""Runs the tests of each folder that is named, each folder by itself, and closes with one line for all of them."""

import subprocess
import sys
import unittest
from pathlib import Path

ROOT = Path(__file__).resolve().parent.parent


def run_folder(folder):
    sys.path.insert(0, str(ROOT))
    suite = unittest.defaultTestLoader.discover(folder)
    result = unittest.TextTestRunner(stream=sys.stderr).run(suite)
    failed = len(result.failures) + len(result.errors) + len(result.unexpectedSuccesses)
    print(result.testsRun, failed)


def counts_of(folder):
    """How many tests of the folder were run and how many failed; one failed where that can't be told."""
    if not Path(folder).is_dir():
        print(f"no folder {folder}", file=sys.stderr)
        return 0, 1
    if not any(Path(folder).rglob("test_*.py")):
        print(f"no test files in {folder}", file=sys.stderr)
        return 0, 0
    print(f"tests of {folder}", file=sys.stderr, flush=True)
    command = [sys.executable, "-B", __file__, "--one", folder]
    done = subprocess.run(command, stdout=subprocess.PIPE, text=True, stdin=subprocess.DEVNULL)
    try:
        # A test may print too, so only the last row counts.
        run, failed = [int(word) for word in done.stdout.splitlines()[-1].split()]
    except (IndexError, ValueError):
        return 0, 1
    # Test files in which no test was run are as bad as a failure: something kept them from being found.
    if done.returncode != 0 or run == 0:
        failed = max(failed, 1)
    return run, failed


def main(arguments):
    if arguments[0] == "--one":
        run_folder(arguments[1])
        return 0
    counts = [counts_of(folder) for folder in arguments]
    run = sum(count[0] for count in counts)
    failed = sum(count[1] for count in counts)
    print(f"{max(run - failed, 0)} passed, {failed} failed", flush=True)
    return 0 if run > 0 and failed == 0 else 1


if __name__ == "__main__":
    sys.exit(main(sys.argv[1:]))
