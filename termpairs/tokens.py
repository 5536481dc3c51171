"""The tokens of a text."""

from termpairs.refusals import NotWellMade

# Every sign that may stand outside a remark.
SIGNS = "ABCDEFGHIJKLMNOPQRSTUVWXYZabcdefghijklmnopqrstuvwxyz0123456789_->(),;# \t\n"
STRANGE = "?"
MARKS = ("->", "(", ")", ",", ";")


def tokens_of(numbers):
    """The names and marks of a text that is given as bytes."""
    bare = without_remarks(signs_of(numbers))
    for mark in MARKS:
        bare = bare.replace(mark, f" {mark} ")
    tokens = bare.split()
    for token in tokens:
        if token not in MARKS and not is_name(token):
            raise NotWellMade()
    return tokens


def signs_of(numbers):
    # A strange byte may still stand in a remark, so it is kept as a sign that no token has.
    known = {}
    for sign in SIGNS:
        known[ord(sign)] = sign
    return "".join([known.get(number, STRANGE) for number in numbers])


def without_remarks(signs):
    return "\n".join([line.partition("#")[0] for line in signs.split("\n")])


def is_name(token):
    return token[0] != "_" and token.replace("_", "").isalnum()


def is_function(token):
    return token not in MARKS and not is_variable(token)


def is_variable(token):
    return token[0].isupper()
