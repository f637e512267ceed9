"""Runs every test beside this file, and every test under ../shared/tests where there is one."""

import subprocess
import sys
import unittest
from pathlib import Path

TOP = Path(__file__).resolve().parent.parent
SHARED = TOP.parent / "shared" / "tests"


def shared_files():
    return sorted(SHARED.rglob("test_*.py")) if SHARED.is_dir() else []


def run_shared(path):
    """Whether the tests of one shared file pass, run as python3 -m unittest runs them."""
    print("shared:", path.name, flush=True)
    return subprocess.run([sys.executable, "-m", "unittest", path.stem], cwd=path.parent).returncode == 0


def main():
    sys.path.insert(0, str(TOP))
    suite = unittest.TestLoader().discover(str(TOP / "tests"), "test_*.py", str(TOP))
    result = unittest.TextTestRunner(verbosity=1).run(suite)
    failed = len(result.failures) + len(result.errors) + len(result.unexpectedSuccesses)
    passed = result.testsRun - failed
    for path in shared_files():
        if run_shared(path):
            passed += 1
        else:
            failed += 1
    print(f"{passed} passed, {failed} failed", flush=True)
    return 0 if failed == 0 and result.testsRun > 0 else 1


if __name__ == "__main__":
    sys.exit(main())
