"""Runs the tests that lie in the folders named; fails if one fails, or if none was run.

Each folder's tests run in a process of their own, so that files of one name in two folders don't meet.
"""

import json
import pathlib
import subprocess
import sys
import unittest


def run_folder(folder):
    suite = unittest.TestLoader().discover(folder, pattern="test_*.py", top_level_dir=folder)
    result = unittest.TextTestRunner(verbosity=1).run(suite)
    failed = len(result.failures) + len(result.errors) + len(result.unexpectedSuccesses)
    return {"run": result.testsRun - len(result.skipped), "failed": failed}


def folders_with_tests(root):
    # A folder without an __init__.py is passed over by unittest's own search, so each is searched by itself.
    return sorted({str(path.parent) for path in pathlib.Path(root).rglob("test_*.py")})


def run_apart(folder):
    command = [sys.executable, "-B", __file__, "--folder", folder]
    done = subprocess.run(command, stdout=subprocess.PIPE, text=True)
    lines = done.stdout.split("\n")
    if done.returncode != 0 or len(lines) < 2:
        return {"run": 1, "failed": 1}
    return json.loads(lines[-2])


def main(roots):
    run = 0
    failed = 0
    for root in roots:
        if not pathlib.Path(root).is_dir():
            print(f"no folder {root}")
            return 1
        for folder in folders_with_tests(root):
            print(f"tests in {folder}", flush=True)
            counts = run_apart(folder)
            run += counts["run"]
            failed += counts["failed"]
    print(f"{max(run - failed, 0)} passed, {failed} failed", flush=True)
    return 1 if failed or run == 0 else 0


if __name__ == "__main__":
    if sys.argv[1] == "--folder":
        print(json.dumps(run_folder(sys.argv[2])))
    else:
        sys.exit(main(sys.argv[1:]))
