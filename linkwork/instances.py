"""The instances of a model (points 17 to 21)."""

from linkwork.assembly import Assembly


def instances(classes, name, changes):
    """Returns a dict: a Variable, or the name of a class, for each path; raises BadModel."""
    entries = Assembly(classes, name, changes).entries
    return {path: entries[path] for path in sorted(list(entries))}
