"""Texts made up by chance, the same ones each time."""

FUNCTIONS = ("a", "b", "0", "order", "rule", "term", "f", "g", "h", "k_1")
VARIABLES = ("X", "Y", "Z", "W")
SIGNS = " ();,->XYab_\n#\x00"


def made_term(chance, arities, variables, depth):
    if variables and chance.random() < 0.3:
        return chance.choice(variables)
    name = chance.choice([name for name in arities if depth > 0 or arities[name] == 0])
    if arities[name] == 0:
        return name
    parts = [made_term(chance, arities, variables, depth - 1) for part in range(arities[name])]
    return name + "(" + ",".join(parts) + ")"


def made_left(chance, arities, variables, depth):
    while True:
        left = made_term(chance, arities, variables, depth)
        if not left[0].isupper():
            return left


def made_rule(chance, arities, variables, depth):
    left = made_left(chance, arities, variables, depth)
    known = [name for name in variables if name in left]
    if chance.random() < 0.03:
        known = variables
    return "rule " + left + "->" + made_term(chance, arities, known, chance.randint(0, depth)) + ";"


def made_orders(chance, arities):
    names = list(arities)
    chance.shuffle(names)
    if chance.random() < 0.05:
        names.append(chance.choice(names))
    if chance.random() < 0.05:
        names.pop()
    at = chance.randint(0, len(names))
    return ["order " + " ".join(names[:at]) + ";", "order " + " ".join(names[at:]) + ";"]


def made_text(chance):
    arities = {"c": 0}
    for name in chance.sample(FUNCTIONS, chance.randint(2, 5)):
        arities[name] = chance.choice((0, 1, 1, 2, 2, 3))
    variables = VARIABLES[:chance.randint(0, 4)]
    depth = chance.randint(1, 3)
    items = made_orders(chance, arities)
    items += [made_rule(chance, arities, variables, depth) for rule in range(chance.randint(0, 5))]
    for term in range(chance.randint(0, 3)):
        items.append("term " + made_term(chance, arities, variables, chance.randint(0, 4)) + ";")
    if chance.random() < 0.3:
        chance.shuffle(items)
    text = chance.choice((" ", "\n", "# x;\n", "")).join(items)
    if chance.random() < 0.1:
        at = chance.randrange(len(text) + 1)
        text = text[:at] + chance.choice(SIGNS) + text[at + chance.randint(0, 1):]
    return text
