"""How the tests ask the program."""

from termpairs.rules import told

MOST = 4194304


def ask(text, steps=1000, most=MOST):
    """What is told of a text, as a text; a refusal as its number."""
    answer = told(steps, most, [ord(sign) for sign in text])
    if answer[0] < 0:
        assert len(answer) == 1, answer
        return answer[0]
    assert answer[0] == len(answer) - 1, answer[0]
    return "".join(chr(number) for number in answer[1:])


def ask_lines(text, steps=1000, most=MOST):
    answer = ask(text, steps, most)
    assert isinstance(answer, str), answer
    assert answer == "" or answer.endswith("\n")
    return answer.split("\n")[:-1]


def nested(name, times, core):
    """The core within so many functions of one term."""
    return (name + "(") * times + core + ")" * times


def spread(name, parts):
    return name + "(" + ",".join(parts) + ")"
