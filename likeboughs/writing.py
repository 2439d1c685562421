"""The texts of trees, rules, nets and signs that were checked before."""


def tree_text(tree):
    """The sign of a tree, and in brackets the texts of its brothers."""
    found = []
    waiting = [tree]
    while waiting:
        part = waiting.pop()
        if isinstance(part, str):
            found.append(part)
        else:
            sign, *brothers = part
            found.append(sign)
            marks = ["("] + [","] * (len(brothers) - 1)
            if brothers != []:
                waiting.append(")")
            for mark, brother in reversed(list(zip(marks, brothers))):
                waiting.extend([brother, mark])
    return "".join(found)


def rule_text(rule):
    """The kind of a rule, its sign, in brackets the kinds of the brothers, and its asks."""
    kind, sign, kinds, asks = rule
    beneath = "" if kinds == () else "(" + ",".join(kinds) + ")"
    told = [str(first) + ("=" if same else "!") + str(second) for first, second, same in asks]
    return " ".join([kind, "=", sign + beneath, *told])


def net_text(net):
    """The nodes of a net, each with its sign and its numbers."""
    return " ".join([":".join([str(part) for part in node]) for node in net])


def signs_text(signs):
    """The first line of the text of a book: its signs, ascending, each with its number of brothers."""
    return " ".join(["signs"] + [f"{sign}:{signs[sign]}" for sign in sorted(signs)])
