"""Which rules the trees of a kind hang on."""

from likeboughs.makers import Maker


def indexes_beneath(rules, kind):
    """The ascending list of the indexes of the rules of a kind, of the kinds beneath it, and so on."""
    beneath = {}
    for made, _, kinds, _ in rules:
        beneath.setdefault(made, []).extend(kinds)
    seen = {kind: True}
    waiting = [kind]
    while waiting:
        upper = waiting.pop()
        for name in beneath.get(upper, []):
            if name not in seen:
                seen[name] = True
                waiting.append(name)
    return [index for index, rule in enumerate(rules) if rule[0] in seen]


def rules_beneath(book, kind):
    """The rules of a book that the trees of a kind hang on, each one once."""
    rules = book.rules
    return list({rules[index]: True for index in indexes_beneath(rules, kind)})


def maker_beneath(book, kind):
    """The maker of the rules of a book that the trees of a kind hang on."""
    return Maker(book.signs, rules_beneath(book, kind))


def kinds_in_order(rules):
    """The kinds of rules, each one behind those beneath it; None if rules lead from a kind back to it."""
    beneath = {}
    for made, _, kinds, _ in rules:
        for name in [made, *kinds]:
            beneath.setdefault(name, {})
        for name in kinds:
            beneath[made][name] = True
    above = {name: [] for name in beneath}
    for made in beneath:
        for name in beneath[made]:
            above[name].append(made)
    left = {made: len(beneath[made]) for made in beneath}
    ready = [made for made in left if left[made] == 0]
    order = []
    while ready:
        name = ready.pop()
        order.append(name)
        for made in above[name]:
            left[made] -= 1
            if left[made] == 0:
                ready.append(made)
    return order if len(order) == len(beneath) else None
