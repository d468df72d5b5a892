"""Counting the blocks that must come over lines, and sharing them among peers (chapter 19)."""

from folderkin.pulling import missing
from folderkin.values import is_integer


def must_come(store, entries):
    """Returns the list of the blocks that must come, so that a device can have the contents of the entries."""
    return sorted(set([block for entry in entries for block in missing(store, entry)]))


def share(offers):
    """Returns the paper of offers: the least most, the first plan with it, and blocks that show it."""
    shown = ()
    most = 0
    while True:
        lacking = _lacking(offers, most)
        if lacking is None:
            return most, _first_plan(offers, most), shown
        # These blocks do not fit with this most, so they show that one more is needed.
        shown = lacking
        most += 1


def _lacking(offers, most):
    """Returns blocks that show that there is no plan with at most so many blocks of each peer, or None."""
    plan = {}
    for block in sorted(offers):
        tried = {}
        if not _assign(offers, plan, most, block, tried):
            # The peers that were tried have no blocks but these, as many as they may have, and this one more.
            return tuple(sorted([block] + [other for other in plan if plan[other] in tried]))
    return None


def _assign(offers, plan, most, block, tried):
    """Puts a block into a plan, and others to other peers, if they must; returns True if it could, otherwise False."""
    for peer in offers[block]:
        if peer in tried:
            continue
        tried[peer] = True
        others = [other for other in plan if plan[other] == peer]
        if len(others) < most or _moves_one(offers, plan, most, others, tried):
            plan[block] = peer
            return True
    return False


def _moves_one(offers, plan, most, blocks, tried):
    for block in blocks:
        if _assign(offers, plan, most, block, tried):
            return True
    return False


def _first_plan(offers, most):
    """Returns the first of the plans with at most so many blocks of each peer, of which there is one."""
    left = {block: offers[block] for block in offers}
    for block in sorted(offers):
        for peer in offers[block]:
            left[block] = (peer,)
            if _lacking(left, most) is None:
                break
    return tuple([(block, left[block][0]) for block in sorted(offers)])


def judge_share(offers, paper):
    """Returns True if a judge takes any value as a paper of offers, otherwise False."""
    if not isinstance(paper, tuple) or len(paper) != 3:
        return False
    most, plan, blocks = paper
    if not is_integer(most) or not _is_plan(offers, plan):
        return False
    return most == _most_of(plan) and _shows(offers, most, blocks)


def _is_plan(offers, plan):
    if not isinstance(plan, tuple) or len(plan) != len(offers):
        return False
    for block, pair in zip(sorted(offers), plan):
        if not isinstance(pair, tuple) or len(pair) != 2:
            return False
        if not is_integer(pair[0]) or pair[0] != block:
            return False
        if not is_integer(pair[1]) or pair[1] not in offers[block]:
            return False
    return True


def _most_of(plan):
    peers = [peer for _, peer in plan]
    return max([peers.count(peer) for peer in peers], default=0)


def _shows(offers, most, blocks):
    """True if any value is an ascending tuple of blocks of the offers that show that there is no lesser most."""
    if not isinstance(blocks, tuple) or not all([is_integer(block) and block in offers for block in blocks]):
        return False
    if not all([first < second for first, second in zip(blocks, blocks[1:])]):
        return False
    peers = set([peer for block in blocks for peer in offers[block]])
    return len(blocks) > (most - 1) * len(peers) if most > 0 else len(blocks) == 0
