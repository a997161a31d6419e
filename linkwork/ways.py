"""What can be reached on ways from one thing to others."""


def reached(ways, starts):
    """Returns what is reached from the starts, these included, as the keys of a dict.

    `ways` has for a thing the list of those to which a way leads from it.
    """
    found = {start: True for start in starts}
    waiting = list(found)
    while waiting:
        here = waiting.pop()
        for place in ways.get(here, []):
            if place not in found:
                found[place] = True
                waiting.append(place)
    return found
