"""Runs the tests of the project, then each test file under ../shared/tests, if there are any.

With two arguments it runs the test files of one folder whose names fit a pattern. Each file under
../shared/tests gets a process of its own, so that files with the same name do not meet.
"""

import pathlib
import subprocess
import sys
import unittest

ROOT = pathlib.Path(__file__).resolve().parent.parent
SHARED = ROOT.parent / "shared" / "tests"
POINTS = ("errors", "tokens", "expressions", "statements", "depth", "limits", "positions",
          "names_twice", "values", "printing", "round_trips", "names", "codes", "blocks", "heights",
          "optimizer", "images", "calls", "steps", "failures", "marks", "memory", "changes",
          "journal", "collector", "portions", "files", "data", "trips", "finding", "merging", "meaning",
          "outcomes", "counting", "meant_images", "sameness", "interface", "errors", "rules", "readme")


def run(folder, pattern, top):
    """How many tests ran, and whether all of them went well."""
    suite = unittest.TestLoader().discover(str(folder), pattern=pattern, top_level_dir=str(top))
    result = unittest.TextTestRunner().run(suite)
    return result.testsRun - len(result.skipped), result.wasSuccessful()


def run_project():
    """Each file of the project's tests must have a test that ran."""
    for name in POINTS:
        if not (ROOT / "tests" / f"test_{name}.py").is_file():
            print(f"tests/test_{name}.py is missing")
            return False
    good = True
    for path in sorted((ROOT / "tests").glob("test_*.py")):
        print(path.name, flush=True)
        many, well = run(ROOT / "tests", path.name, ROOT)
        good = good and well and many > 0
    return good


def run_shared():
    good = True
    for path in sorted(SHARED.rglob("test_*.py")):
        print(path, flush=True)
        command = [sys.executable, __file__, str(path.parent), path.name]
        good = subprocess.run(command, cwd=ROOT).returncode == 0 and good
    return good


def main():
    sys.path.insert(0, str(ROOT))
    if len(sys.argv) == 3:
        _, well = run(sys.argv[1], sys.argv[2], sys.argv[1])
        return well
    project = run_project()
    shared = run_shared()
    return project and shared


if __name__ == "__main__":
    good = main()
    print("all is well" if good else "FAILED", flush=True)
    sys.exit(0 if good else 1)
