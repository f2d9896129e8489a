"""Two scripts at once."""

from scripttrees.asking import AskedState
from scripttrees.calls import make
from scripttrees.comparing import told_apart
from scripttrees.errors import InvalidOrder
from scripttrees.exploring import first_found
from scripttrees.judged import MOST_COMPARED_CALLS, check_compared
from scripttrees.states import state_of, tree_of
from scripttrees.trees import check_tree

SIGNS = ("0", "1")


def make_both(state, scripts, order):
    """Make the calls of two scripts in an order, and return the tuple of the outcomes of both."""
    done = [0, 0]
    results = ["ok", "ok"]
    for sign in order:
        at = SIGNS.index(sign)
        if results[at] == "ok":
            results[at] = make(state, scripts[at][done[at]])
            if results[at] == "ok":
                done[at] += 1
    return (done[0], results[0]), (done[1], results[1])


def both_on(tree, scripts, order):
    """Return what run_both returns, for what is known to be right."""
    state = state_of(tree)
    one, other = make_both(state, scripts, order)
    return one, other, tree_of(state)


def check_order(order, scripts):
    """Raise InvalidOrder if order is not an order of the calls of two scripts."""
    signs = [SIGNS[at] for at in range(len(scripts)) for _ in scripts[at]]
    if not isinstance(order, str) or sorted(order) != signs:
        raise InvalidOrder("this is not an order of the calls of these scripts")


def run_both(tree, one, other, order):
    """Return the outcomes of two scripts that run at once in an order, and the tree at the end."""
    check_tree(tree)
    check_compared([one, other], MOST_COMPARED_CALLS)
    check_order(order, [one, other])
    return both_on(tree, [one, other], order)


def orders_of(scripts):
    """Return the ascending list of all orders of the calls of two scripts."""
    orders = [""]
    for _ in range(len(scripts[0]) + len(scripts[1])):
        orders = [order + SIGNS[at] for order in orders for at in range(len(SIGNS))
                  if order.count(SIGNS[at]) < len(scripts[at])]
    return orders


def plain_orders(scripts):
    """Return the list of the two orders in which one script runs after the other."""
    first = SIGNS[0] * len(scripts[0])
    second = SIGNS[1] * len(scripts[1])
    return [first + second, second + first]


def odd_tree(answers, scripts, order, others):
    """Return a tree that gives the answers, and on which an order gives what none of the others gives, or None."""
    states = []
    for row in [order] + others:
        state = AskedState(answers)
        make_both(state, scripts, row)
        states.append(state)
    tree = told_apart(answers, states)
    if both_on(tree, scripts, order) in [both_on(tree, scripts, row) for row in others]:
        return None
    return tree


def disorder_by(scripts, order):
    """Return some tree on which an order gives what neither script after the other gives, or None."""
    plain = plain_orders(scripts)
    if order in plain:
        return None
    # The order that begins with the same script is the likelier one to give the same.
    if order.startswith(SIGNS[1]):
        plain.reverse()

    def look(answers):
        # Where one comparison is enough, the questions of the other one are spared.
        if odd_tree(answers, scripts, order, plain[:1]) is None:
            return None
        return odd_tree(answers, scripts, order, plain)

    return first_found(look)


def are_orderly(one, other):
    """Return whether on all trees each order gives the same as one of two scripts after the other."""
    return disorder(one, other) is None


def disorder(one, other):
    """Return some tree and an order that show that two scripts are not orderly, or None."""
    check_compared([one, other], MOST_COMPARED_CALLS)
    scripts = [one, other]
    for order in orders_of(scripts):
        tree = disorder_by(scripts, order)
        if tree is not None:
            return tree, order
    return None


def joins_of(scripts):
    """Return the list of all joins of two scripts, each as the sign of the script and the number of the call."""
    return [(SIGNS[at], number) for at in range(len(scripts)) for number in range(1, len(scripts[at]))]


def breaks(order, join):
    """Return whether in an order something comes between the two calls of a join."""
    sign, number = join
    places = [at for at in range(len(order)) if order[at] == sign]
    return places[number] != places[number - 1] + 1


def fewest_joins(one, other):
    """Return the least number of joins with which all orders that are left give the same as a plain one."""
    check_compared([one, other], MOST_COMPARED_CALLS)
    scripts = [one, other]
    bad = [order for order in orders_of(scripts) if disorder_by(scripts, order) is not None]
    rows = [[]]
    for join in joins_of(scripts):
        rows = rows + [row + [join] for row in rows]
    return min([len(row) for row in rows if all([any([breaks(order, join) for join in row]) for order in bad])])
