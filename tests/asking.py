"""How the tests ask the program."""

import os
import subprocess
import sys

from termpairs.rules import told

MOST = 4194304
ROOT = os.path.dirname(os.path.dirname(os.path.abspath(__file__)))

CHILD = """
import resource, sys
sys.path.insert(0, %r)
from termpairs.rules import told
with open("/proc/self/statm") as file:
    most = int(file.read().split()[0]) * resource.getpagesize() + %d
resource.setrlimit(resource.RLIMIT_AS, (most, most))
answer = told(%d, %d, list(sys.stdin.buffer.read()))
sys.stdout.write(bytes(answer[1:]).decode() if answer[0] >= 0 else str(answer[0]))
"""


def ask(text, steps=1000, most=MOST):
    """What is told of a text, as a text; a refusal as its number."""
    answer = told(steps, most, [ord(sign) for sign in text])
    if answer[0] < 0:
        assert len(answer) == 1, answer
        return answer[0]
    assert answer[0] == len(answer) - 1, answer[0]
    return "".join(chr(number) for number in answer[1:])


def ask_lines(text, steps=1000, most=MOST):
    answer = ask(text, steps, most)
    assert isinstance(answer, str), answer
    assert answer == "" or answer.endswith("\n")
    return answer.split("\n")[:-1]


def nested(name, times, core):
    """The core within so many functions of one term."""
    return (name + "(") * times + core + ")" * times


def spread(name, parts):
    return name + "(" + ",".join(parts) + ")"


def ask_within(memory, text, steps=1000, most=MOST):
    """What ask would answer, asked by a process of its own that gets no more than so many bytes of memory for it."""
    run = subprocess.run([sys.executable, "-B", "-c", CHILD % (ROOT, memory, steps, most)],
                         input=text.encode(), capture_output=True, check=False)
    assert run.returncode == 0, run.stderr[-300:]
    answer = run.stdout.decode()
    return int(answer) if answer.startswith("-") else answer
