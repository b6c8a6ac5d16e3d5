"""Who is to have what with n workers, so that as few groups are moved as can be.

Owners are a list: whose each group is, by group; 0 stands for nobody.
"""


def shares_with(owners, n):
    share = len(owners) // n
    left_over = len(owners) % n
    most_first = sorted(range(1, n + 1), key=lambda w: (-owners.count(w), w))
    shares = {}
    for place, w in enumerate(most_first):
        shares[w] = share + 1 if place < left_over else share
    return shares


def stayers(owners, shares):
    kept = []
    for w in owners:
        stays = kept.count(w) < shares.get(w, 0)
        kept.append(w if stays else 0)
    return kept


def first_below_share(owners, shares):
    return min([w for w in shares if owners.count(w) < shares[w]])


def owners_with(owners, n):
    shares = shares_with(owners, n)
    targets = stayers(owners, shares)
    # Only when all that stay are known is it known who has room for the others.
    while 0 in targets:
        targets[targets.index(0)] = first_below_share(targets, shares)
    return targets
