"""Trees that share no tie, or a parting that has too few ties for them."""

from treesapart.checks import refuse_count
from treesapart.errors import NoMost
from treesapart.exchange import full_parting, packed, woods_by
from treesapart.layout import MOST_WOODS, every_number


def packed_or_parting(web, k, numbers):
    """("trees", k trees of these ties), or ("parting", the greatest full places where no more can be put)."""
    homes = packed(web, k, numbers)
    trees = woods_by(homes, k)
    if all(len(tree) == web[0] - 1 for tree in trees):
        return ("trees", trees)
    return ("parting", full_parting(web, homes, k))


def trees_or_parting(web, k):
    """k trees that share no tie, or a parting between whose parts too few ties go."""
    refuse_count(k, 1, MOST_WOODS)
    return packed_or_parting(web, k, every_number(web))


def most_trees(web):
    """(k, k trees, a parting for k + 1): the most trees that share no tie."""
    if web[0] == 1:
        raise NoMost("of one place there are as many trees as one likes")
    numbers = every_number(web)
    trees = []
    kind, told = packed_or_parting(web, 1, numbers)
    while kind == "trees":
        trees = told
        kind, told = packed_or_parting(web, len(trees) + 1, numbers)
    return (len(trees), trees, told)
