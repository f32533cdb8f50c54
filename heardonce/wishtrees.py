"""Wish trees of lots."""

from heardonce.errors import InvalidWishTree, TooMany
from heardonce.names import MOST_STEPS, check_topic, check_way, check_wish, is_met
from heardonce.wishlots import MOST_PAIRS, check_lot, is_lot


def way_at_end(rows, steps):
    """The way of the row with just these steps, None if there is none."""
    ways = [way for left, way in rows if left == steps]
    return ways[0] if ways else None


def rows_behind(rows, step):
    """The rows that begin with a step, without it."""
    return [(steps[1:], way) for steps, way in rows if steps[:1] == [step]]


def tree_of_rows(rows):
    """The wish tree of pairs (steps, way), the steps being those that are not yet done."""
    firsts = sorted(set([steps[0] for steps, _ in rows if steps]))
    named = tuple((step, tree_of_rows(rows_behind(rows, step))) for step in firsts if step not in ("+", "#"))
    wide = tree_of_rows(rows_behind(rows, "+")) if "+" in firsts else None
    return way_at_end(rows, []), way_at_end(rows, ["#"]), named, wide


def tree_of(lot):
    return tree_of_rows([(wish.split("/"), way) for wish, way in lot])


def wish_tree(lot):
    """The wish tree of a lot."""
    check_lot(lot)
    return tree_of(lot)


def rows_below(pairs, done):
    """The rows of the trees of pairs (name, tree), or None if there are none for a tree, or too many in all."""
    rows = []
    for pair in pairs:
        if not isinstance(pair, tuple) or len(pair) != 2 or not isinstance(pair[0], str):
            return None
        below = rows_of(pair[1], done + [pair[0]])
        if not below or len(rows) + len(below) > MOST_PAIRS:
            return None
        rows += below
    return rows


def rows_of(tree, done):
    """The list of the pairs (wish, way) of any value, taken for a tree behind some steps, or None if it is none."""
    if not isinstance(tree, tuple) or len(tree) != 4 or not isinstance(tree[2], tuple) or len(done) > MOST_STEPS:
        return None
    here, rest, named, wide = tree
    rows = [("/".join(done), here)] if here is not None else []
    if rest is not None:
        rows.append(("/".join(done + ["#"]), rest))
    below = rows_below(list(named) + ([("+", wide)] if wide is not None else []), done)
    return rows + below if below is not None else None


def lot_in(value):
    """The lot of any value, taken for a wish tree, or None if it is none."""
    rows = rows_of(value, [])
    if rows is None or not all([isinstance(way, str) for _, way in rows]):
        return None
    lot = tuple(sorted(rows))
    # Names out of order, and steps where none may be, show in the tree of the lot.
    return lot if is_lot(lot) and tree_of(lot) == value else None


def is_wish_tree(value):
    """Tell whether any value is the wish tree of some lot."""
    return lot_in(value) is not None


def lot_checked(tree):
    lot = lot_in(tree)
    if lot is None:
        raise InvalidWishTree("not a wish tree")
    return lot


def lot_of_tree(tree):
    """The lot of a wish tree."""
    return lot_checked(tree)


def met_in_tree(tree, topic):
    """The ascending list of the pairs of the lot of a tree whose wishes a topic meets."""
    lot = lot_checked(tree)
    check_topic(topic)
    return [pair for pair in lot if is_met(topic, pair[0])]


def trees_behind(trees, step):
    """The trees to which a step leads from some trees, by its name and by "+"."""
    named = [below for tree in trees for name, below in tree[2] if name == step]
    return named + [tree[3] for tree in trees if tree[3] is not None]


def trees_visited(tree, topic):
    """The number of trees to which the first steps of a topic lead, none up to all of them."""
    lot_checked(tree)
    check_topic(topic)
    trees, many = [tree], 1
    for step in topic.split("/"):
        trees = trees_behind(trees, step)
        many += len(trees)
    return many


def tree_with(tree, wish, way):
    """The wish tree of the lot in which a wish has this way, besides."""
    lot = lot_checked(tree)
    check_wish(wish)
    check_way(way)
    others = [pair for pair in lot if pair[0] != wish]
    if len(others) >= MOST_PAIRS:
        raise TooMany(MOST_PAIRS)
    return tree_of(tuple(sorted(others + [(wish, way)])))


def tree_without(tree, wish):
    """The wish tree of the lot without a wish."""
    lot = lot_checked(tree)
    check_wish(wish)
    return tree_of(tuple(pair for pair in lot if pair[0] != wish))
