"""Pairs of orders of some points, and where words lead the points."""

from itertools import permutations, product

from rimword.errors import BadPair

MOST_POINTS = 6
MOST_SEARCHED = 4


def steps(word, pair):
    """Where each point comes to by each beginning of the word."""
    check_pair(pair)
    leading = leading_orders(pair)
    reached = tuple(range(len(pair[0])))
    found = [reached]
    for step in word:
        order = leading[step]
        reached = tuple([order[point] for point in reached])
        found.append(reached)
    return found


def image(word, pair):
    """Where each point comes to by the whole word."""
    return steps(word, pair)[-1]


def makes_nothing(pieces, pair):
    """Whether by each piece's rim each point comes to itself."""
    return all([leads_back(rim, pair) for rim in pieces.rims()])


def shows(floor, pieces, pair):
    """Whether the pair shows that the floor can't be laid."""
    return makes_nothing(pieces, pair) and not leads_back(floor.rim(), pair)


def search(floor, pieces, most):
    """The first pair that shows it, of the fewest points; None without one."""
    if not 1 <= most <= MOST_SEARCHED:
        raise BadPair("pairs of 1 to 4 points are searched")
    for many in range(2, most + 1):
        # permutations and product both go from the least tuple on.
        orders = list(permutations(range(many)))
        for pair in product(orders, orders):
            if shows(floor, pieces, pair):
                return pair
    return None


def check_pair(pair):
    """Refuse what is not two orders of the same points."""
    if len(pair) != 2:
        raise BadPair("a pair is of two orders")
    many = len(pair[0])
    if not 1 <= many <= MOST_POINTS:
        raise BadPair("an order is of 1 to 6 points")
    for order in pair:
        if sorted(order) != list(range(many)):
            raise BadPair("an order has each of the points once")


def leading_orders(pair):
    """For each step where it leads each point."""
    one, other = pair
    return {"e": one, "n": other, "w": way_back(one), "s": way_back(other)}


def way_back(order):
    """The order that leads each point back."""
    return tuple([order.index(point) for point in range(len(order))])


def leads_back(word, pair):
    """Whether by the word each point comes to itself."""
    found = steps(word, pair)
    return found[0] == found[-1]
