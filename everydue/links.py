"""Which entries speak of which: circles, orders, and what speaks of a name at last (points 52, 57 and 58)."""

from heapq import heapify, heappop, heappush


def held_links(speaking):
    """Returns a dict of the lists of the entries, held ones, of which each entry speaks.

    speaking is a dict of the lists of the names of entries of which each entry speaks, held ones or not.
    """
    return {name: [other for other in others if other in speaking] for name, others in speaking.items()}


def turned_links(links):
    """Returns a dict of the lists of the entries that speak of each entry."""
    turned = {name: [] for name in links}
    for name, others in links.items():
        for other in others:
            turned[other].append(name)
    return turned


def reached_from(links, name):
    """Returns a dict with all names to which one or more links lead from a name."""
    reached = {}
    waiting = [name]
    while waiting:
        others = links[waiting.pop()]
        for other in others:
            if other not in reached:
                reached[other] = True
                waiting.append(other)
    return reached


def in_order(links):
    """Returns a list of the names, each behind those to which its links lead, the least one first.

    Names from which links lead into a circle have no place in it.
    """
    turned = turned_links(links)
    missing = {name: len(others) for name, others in links.items()}
    ready = [name for name in missing if missing[name] == 0]
    heapify(ready)
    order = []
    while ready:
        name = heappop(ready)
        order.append(name)
        for other in turned[name]:
            missing[other] -= 1
            if missing[other] == 0:
                heappush(ready, other)
    return order


def circles_in(links):
    """Returns a dict with all names from which links lead back to themselves."""
    ordered = {name: True for name in in_order(links)}
    left = _among(links, [name for name in links if name not in ordered])
    # What is behind circles alone is ordered if the links are turned.
    turned = turned_links(left)
    behind = {name: True for name in in_order(turned)}
    left = _among(left, [name for name in left if name not in behind])
    turned = turned_links(left)
    found = {}
    for name in left:
        if name not in found:
            reached = reached_from(left, name)
            if name in reached:
                back = reached_from(turned, name)
                found.update({other: True for other in reached if other in back})
    return found


def _among(links, names):
    """Returns the links of some names to one another."""
    held = {name: True for name in names}
    return {name: [other for other in links[name] if other in held] for name in names}


def order_behind(links, circles):
    """Returns a list of the names that are in no circle, each behind those to which its links lead."""
    return in_order(_among(links, [name for name in links if name not in circles]))
