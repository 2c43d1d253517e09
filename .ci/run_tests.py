"""Runs each test file below the folders that are named, in a process of its own, and says how many tests ran."""

import os
import pathlib
import re
import subprocess
import sys

ROOT = pathlib.Path(__file__).resolve().parent.parent


def run_file(path):
    """How many of the file's tests passed, and how many failed."""
    env = dict(os.environ, PYTHONPATH=os.pathsep.join([str(ROOT), str(path.parent)]))
    done = subprocess.run([sys.executable, "-m", "unittest", path.stem], cwd=path.parent, env=env, text=True,
                          stdin=subprocess.DEVNULL, stdout=subprocess.PIPE, stderr=subprocess.STDOUT)
    counts = re.findall(r"^Ran (\d+) tests? in", done.stdout, re.MULTILINE)
    ran = int(counts[-1]) if counts else 0
    ends = re.findall(r"^FAILED \((.*)\)$", done.stdout, re.MULTILINE)
    faults = re.findall(r"(?:^|, )(?:failures|errors|unexpected successes)=(\d+)", ends[-1] if ends else "")
    wrong = sum(int(number) for number in faults)
    # A file that ends badly without a test that failed counts as one; so does one without tests.
    if wrong == 0 and (done.returncode != 0 or ran == 0):
        wrong = 1
    if wrong > 0:
        print(done.stdout)
    passed = max(ran - wrong, 0)
    print(f"{path}: {passed} of {ran} passed")
    return passed, wrong


def main():
    print(f"Python {sys.version.split()[0]}")
    passed = failed = 0
    for folder in sys.argv[1:]:
        if not pathlib.Path(folder).is_dir():
            print(f"{folder} is not there")
            failed += 1
        for path in sorted(pathlib.Path(folder).rglob("test_*.py")):
            done = run_file(path.resolve())
            passed += done[0]
            failed += done[1]
    print(f"{passed} passed, {failed} failed", flush=True)
    sys.exit(1 if failed or not passed else 0)


if __name__ == "__main__":
    main()
