"""The grammar of units as it is written down, followed on all ways at once: which sorts of words can come next."""


def sequence(*nodes):
    return ("sequence",) + nodes


def perhaps(*nodes):
    return ("times", 1, sequence(*nodes))


def listed(node, most):
    """One to so many, with commas between them."""
    return sequence(node, ("times", most - 1, sequence(",", node)))


def any_number(*nodes):
    return "star", sequence(*nodes)


def one_of(*nodes):
    return ("one_of",) + nodes


def rule(name, inside=0):
    return "rule", name, inside


def rules(name, inside):
    kind = one_of("number", "truth", "name")
    e = rule("E", inside)
    variant = sequence("name", perhaps("(", listed(kind, 3), ")"))
    branch = sequence("name", perhaps("(", listed("name", 3), ")"), rule("BLOCK"))
    call = sequence("name", "(", perhaps(listed(e, 3)), ")")
    thing = [
        "figures", "true", "false", "name", call, sequence("make", "name", perhaps("(", listed(e, 3), ")")),
        sequence(one_of("new", "at"), "name", "(", e, ",", e, ")"), sequence("long", "name", "(", e, ")"),
    ]
    if inside < 12:
        thing.append(sequence("(", rule("E", inside + 1), ")"))
    return {
        "UNIT": sequence(
            "unit", "name", perhaps("uses", listed("name", 5)), ("times", 8, rule("DECLARATION")),
            ("times", 8, rule("FUNCTION")),
        ),
        "DECLARATION": one_of(
            sequence("choice", "name", "=", variant, ("times", 3, sequence("|", variant))),
            sequence("row", "name", "of", kind),
        ),
        "FUNCTION": sequence("function", "name", "(", perhaps(listed("name", 3)), ")", rule("BLOCK")),
        "BLOCK": sequence("{", rule("STATEMENTS"), "}"),
        "STATEMENTS": any_number(rule("STATEMENT")),
        "STATEMENT": one_of(
            sequence(one_of("let", "set"), "name", "=", e),
            sequence("put", "name", "(", e, ",", e, ")", "=", e),
            sequence(one_of("show", "return", "fail"), e),
            sequence("if", e, rule("BLOCK"), perhaps("else", rule("BLOCK"))),
            sequence("while", e, rule("BLOCK")),
            sequence("match", e, "{", branch, ("times", 3, branch), "}"),
            sequence("try", "name", "=", call, "else", "name", ":", e),
        ),
        "E": sequence(rule("A", inside), any_number("or", rule("A", inside))),
        "A": sequence(rule("N", inside), any_number("and", rule("N", inside))),
        "N": one_of(sequence("not", rule("N", inside)), rule("C", inside)),
        "C": sequence(rule("S", inside), perhaps(one_of("<", "<=", "=="), rule("S", inside))),
        "S": sequence(rule("P", inside), any_number(one_of("+", "-"), rule("P", inside))),
        "P": sequence(rule("T", inside), any_number(one_of("*", "over", "rest"), rule("T", inside))),
        "T": one_of(*thing),
    }[name]


class Follower:
    """All ways in which a row of sorts of words can have come, as stacks of what is still to come."""

    def __init__(self, name):
        self.stacks = self.opened({(rule(name),)})

    def opened(self, stacks):
        found = set()
        met = set(stacks)
        coming = list(stacks)
        while coming:
            stack = coming.pop()
            if not stack or isinstance(stack[0], str):
                found.add(stack)
                continue
            for other in self.ways(stack[0], stack[1:]):
                if other not in met:
                    met.add(other)
                    coming.append(other)
        return found

    def ways(self, node, rest):
        if node[0] == "sequence":
            return [node[1:] + rest]
        if node[0] == "times":
            again = (("times", node[1] - 1, node[2]),) if node[1] > 1 else ()
            return [rest, (node[2],) + again + rest]
        if node[0] == "star":
            return [rest, (node[1], node) + rest]
        if node[0] == "one_of":
            return [(other,) + rest for other in node[1:]]
        return [(rules(node[1], node[2]),) + rest]

    def wanted(self):
        return tuple(sorted({stack[0] if stack else "end" for stack in self.stacks}))

    def go(self, sort):
        self.stacks = self.opened({stack[1:] for stack in self.stacks if stack and stack[0] == sort})
