"""Nets: trees of any size, told by nodes that stand for their parts."""

from likeboughs.books import check_book
from likeboughs.errors import InvalidNet, TooMany
from likeboughs.groves import Grove
from likeboughs.makers import lots_of_nodes, maker_of
from likeboughs.trees import check_signs, check_tree
from likeboughs.words import is_between

MOST_NODES = 200
MOST_PLACES = 300
MOST_LEVELS = 40


def is_node(signs, at, thing):
    """Whether an object is the node with a number: a sign, and numbers of earlier nodes."""
    if not isinstance(thing, tuple) or len(thing) == 0 or not isinstance(thing[0], str) or thing[0] not in signs:
        return False
    return len(thing) == signs[thing[0]] + 1 and all([is_between(number, 0, at - 1) for number in thing[1:]])


def is_net_of(signs, thing):
    """Whether an object is a net of signs that were checked before."""
    if not isinstance(thing, list) or not 1 <= len(thing) <= MOST_NODES:
        return False
    return all([is_node(signs, at, node) for at, node in enumerate(thing)])


def check_net(signs, net):
    """Raise InvalidNet unless an object is a net of signs that were checked before."""
    if not is_net_of(signs, net):
        raise InvalidNet("a net is a list of one to two hundred tuples of a sign and of numbers of earlier ones")


def planted(grove, net):
    """The numbers in a grove of the trees of the nodes of a net."""
    numbers = []
    for sign, *brothers in net:
        numbers.append(grove.plant((sign, *[numbers[brother] for brother in brothers])))
    return numbers


def net_in_order(nodes, top):
    """The nodes that a node stands above, and itself, in the order in which their trees are finished.

    nodes have each tree once. What waits a second time is finished, as all that
    stands beneath it is then.
    """
    numbers = {}
    net = []
    waiting = [(top, False)]
    while waiting:
        number, is_ready = waiting.pop()
        sign, *brothers = nodes[number]
        if number not in numbers and is_ready:
            numbers[number] = len(net)
            net.append((sign, *[numbers[brother] for brother in brothers]))
        elif number not in numbers:
            waiting.append((number, True))
            waiting.extend([(brother, False) for brother in reversed(brothers)])
    return net


def is_net(signs, thing):
    """Whether an object is a net of the signs."""
    check_signs(signs)
    return is_net_of(signs, thing)


def net_sizes(signs, net):
    """The list of the sizes of the trees of the nodes of a net."""
    check_signs(signs)
    check_net(signs, net)
    grove = Grove()
    return [grove.places[number] for number in planted(grove, net)]


def same_nodes(signs, net):
    """The list that has for each node of a net the first one with the same tree."""
    check_signs(signs)
    check_net(signs, net)
    numbers = planted(Grove(), net)
    return [numbers.index(number) for number in numbers]


def least_net(signs, net):
    """The net of the last node's tree that has each of its parts once, in the order in which they are finished."""
    check_signs(signs)
    check_net(signs, net)
    grove = Grove()
    numbers = planted(grove, net)
    return net_in_order(grove.nodes, numbers[-1])


def net_lots(book, net):
    """The list of the lots of the trees of the nodes of a net."""
    check_book(book)
    check_net(book.signs, net)
    grove = Grove()
    numbers = planted(grove, net)
    maker = maker_of(book)
    lots = lots_of_nodes(maker, grove.nodes)
    return [maker.lot(lots[number]) for number in numbers]


def net_of(signs, tree):
    """The least net of a tree."""
    check_signs(signs)
    check_tree(signs, tree)
    grove = Grove()
    top = grove.put(tree)
    return net_in_order(grove.nodes, top)


def depths_of(net):
    """The list of the depths of the trees of the nodes of a net."""
    depths = []
    for node in net:
        depths.append(1 + max([depths[brother] for brother in node[1:]], default=0))
    return depths


def tree_of(signs, net):
    """The tree of the last node of a net, if it is neither too great nor too deep."""
    check_signs(signs)
    check_net(signs, net)
    grove = Grove()
    number = planted(grove, net)[-1]
    if grove.places[number] > MOST_PLACES or depths_of(net)[-1] > MOST_LEVELS:
        raise TooMany("the tree has more than three hundred places of signs or is more than forty deep")
    return grove.trees()[number]
