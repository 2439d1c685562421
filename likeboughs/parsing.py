"""What texts tell; None for those that tell of nothing."""

from likeboughs.books import is_rule_of
from likeboughs.nets import is_net_of
from likeboughs.trees import is_signs
from likeboughs.writing import net_text, rule_text, signs_text

FIGURES = "0123456789"
LONGEST_NUMBER = 3


def tokens_of(text):
    """The words and the marks of the text of a tree, in which there are no spaces."""
    spaced = text.replace("(", " ( ").replace(")", " ) ").replace(",", " , ")
    return [token for token in spaced.split(" ") if token != ""]


def finish(signs, waiting):
    """Put the last of the trees that wait beneath the one ahead of it.

    Returns the mark that has to follow, and the tree if there is none ahead.
    """
    tree = tuple(waiting.pop())
    if waiting == []:
        return ("", tree)
    above = waiting[-1]
    above.append(tree)
    return ("," if len(above) <= signs[above[0]] else ")", None)


def tree_in(signs, text):
    """The tree that a text tells."""
    if " " in text:
        return None
    waiting = []
    # A sign has to follow where no mark has.
    mark, tree = None, None
    for token in tokens_of(text):
        if mark is None:
            if token not in signs:
                return None
            waiting.append([token])
            mark = "("
            if signs[token] == 0:
                mark, tree = finish(signs, waiting)
        elif token != mark:
            return None
        elif mark == ")":
            mark, tree = finish(signs, waiting)
        else:
            mark = None
    return tree


def ask_in(word):
    """The ask that a word tells."""
    if len(word) != 3 or word[0] not in FIGURES or word[1] not in "=!" or word[2] not in FIGURES:
        return None
    return (int(word[0]), int(word[2]), word[1] == "=")


def rule_in(signs, text):
    """The rule that a text tells."""
    words = text.split(" ")
    if len(words) < 3:
        return None
    sign, bracket, beneath = words[2].partition("(")
    kinds = () if bracket == "" else tuple(beneath[:-1].split(","))
    rule = (words[0], sign, kinds, tuple([ask_in(word) for word in words[3:]]))
    # There is one text for each rule: so all that is wrong in this one shows.
    return rule if is_rule_of(signs, rule) and rule_text(rule) == text else None


def number_in(word):
    """The number that a word of few figures tells."""
    if not 1 <= len(word) <= LONGEST_NUMBER or not all([figure in FIGURES for figure in word]):
        return None
    return int(word)


def net_in(signs, text):
    """The net that a text tells."""
    net = []
    for word in text.split(" "):
        parts = word.split(":")
        net.append((parts[0], *[number_in(part) for part in parts[1:]]))
    return net if is_net_of(signs, net) and net_text(net) == text else None


def signs_in(line):
    """The signs that the first line of the text of a book tells."""
    signs = {}
    for word in line.split(" ")[1:]:
        sign, _, number = word.partition(":")
        signs[sign] = number_in(number)
    return signs if is_signs(signs) and signs_text(signs) == line else None
