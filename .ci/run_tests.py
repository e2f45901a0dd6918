"""Runs the files test_*.py below the folders named, each in a process of its own.

So two files of one name don't get in each other's way. It fails if a test
fails, if a folder is missing, if a file of the first folder runs no test, or
if no test is run at all.
"""

import os
import pathlib
import re
import subprocess
import sys

TOP = pathlib.Path(__file__).resolve().parent.parent


def closing_counts(text):
    """What stands in brackets behind the closing OK or FAILED: failures, errors, skipped .."""
    closing = re.findall(r"^(?:OK|FAILED) \((.*)\)$", text, re.MULTILINE)
    pairs = re.findall(r"([a-z ]+)=(\d+)", closing[-1]) if closing else []
    return {name.strip(): int(number) for name, number in pairs}


def run_file(path):
    """(how many tests were run and not skipped, how many of them failed, whether all is well)."""
    done = subprocess.run([sys.executable, "-B", "-m", "unittest", path.stem], cwd=path.parent,
                          env={**os.environ, "PYTHONPATH": str(TOP)}, stdin=subprocess.DEVNULL,
                          stdout=subprocess.PIPE, stderr=subprocess.STDOUT, text=True, errors="replace")
    print(f"== {path}\n{done.stdout}", flush=True)
    ran = re.findall(r"^Ran (\d+) tests? in ", done.stdout, re.MULTILINE)
    counts = closing_counts(done.stdout)
    run = int(ran[-1]) - counts.get("skipped", 0) if ran else 0
    failed = sum(counts.get(name, 0) for name in ("failures", "errors", "unexpected successes"))
    # Newer Pythons end with 5 where no test was run; that is judged below.
    return run, failed, bool(ran) and done.returncode in (0, 5)


def main(folders):
    passed_in_all, failed_in_all, faults = 0, 0, []
    for folder in map(pathlib.Path, folders):
        if not folder.is_dir():
            faults.append(f"there is no folder {folder}")
        for path in sorted(folder.rglob("test_*.py")):
            run, failed, well = run_file(path)
            passed_in_all += max(run - failed, 0)
            failed_in_all += failed
            if not well:
                faults.append(f"failed: {path}")
            elif run == 0 and folder == pathlib.Path(folders[0]):
                faults.append(f"no test was run: {path}")
    if passed_in_all + failed_in_all == 0:
        faults.append("no test was run at all")
    for fault in faults:
        print(fault)
    print(f"{passed_in_all} passed, {max(failed_in_all, len(faults))} failed")
    return 1 if faults else 0


sys.exit(main(sys.argv[1:]))
