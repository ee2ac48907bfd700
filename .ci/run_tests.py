"""Run each test_*.py of the given folders with unittest, one process for each file."""

import pathlib
import subprocess
import sys


def test_files(folder):
    return sorted(pathlib.Path(folder).rglob("test_*.py"))


def command(path):
    if path.parts[0] == "tests":
        return [sys.executable, "-m", "unittest", ".".join(path.with_suffix("").parts)]
    return [sys.executable, "-m", "unittest", "discover", "-s", str(path.parent), "-p", path.name]


def main(own, shared):
    paths = test_files(own)
    if not paths:
        sys.exit("the project has no tests")
    if pathlib.Path(shared).is_dir():
        paths += test_files(shared)
    failed = []
    for path in paths:
        print(f"== {path}", flush=True)
        if subprocess.run(command(path)).returncode != 0:
            failed.append(str(path))
    if failed:
        sys.exit("failed: " + ", ".join(failed))
    print(f"{len(paths)} test files passed")


if __name__ == "__main__":
    main(*sys.argv[1:])
