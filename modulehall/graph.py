"""Which modules use which, and in which order they can be loaded."""

from modulehall.blocks import all_rows, own_declared
from modulehall.checks import check_found, check_path, check_shelf
from modulehall.forms import nested
from modulehall.shelves import is_found, module_on
from modulehall.sources import source


def uses(shelf, path):
    """Return the paths that the rows of a module may load when they are run, in order."""
    check_module(shelf, path)
    return prompt_paths(shelf, path)


def late_uses(shelf, path):
    """Return the paths that the defs and the lazy names of a module may load, in order."""
    check_module(shelf, path)
    rows = module_on(shelf, path)[1]
    lazy = [row[1] for row in all_rows(rows) if row[0] == "lazy"]
    return counting(shelf, path, lazy + loaded_by(shelf, path, late_rows(rows)))


def rings(shelf):
    """Return the rings of a shelf, each one in order, ordered by their first paths."""
    check_shelf(shelf)
    groups = grouped(used_by_all(shelf))
    return [groups[path] for path in groups if len(groups[path]) > 1 and groups[path][0] == path]


def turn(shelf):
    """Return all paths of a shelf in the load order."""
    check_shelf(shelf)
    used = used_by_all(shelf)
    groups = grouped(used)
    left = {path: True for path in used}
    order = []
    while len(left) > 0:
        path = first_ready(used, groups, left)
        order.append(path)
        del left[path]
    return order


def check_module(shelf, path):
    """Raise an error unless a value is a path that is found on a shelf."""
    check_shelf(shelf)
    check_path(path)
    check_found(shelf, path)


def prompt_paths(shelf, path):
    """Return the paths that a module uses."""
    rows = module_on(shelf, path)[1]
    return counting(shelf, path, [path] + loaded_by(shelf, path, prompt_rows(rows)))


def prompt_rows(rows):
    """Return the rows that are run when a module is, without those in defs."""
    listed = []
    for row in rows:
        listed.append(row)
        if row[0] != "def":
            for part in nested(row):
                listed.extend(prompt_rows(part))
    return listed


def late_rows(rows):
    """Return the rows in defs, at any depth."""
    return [inner for row in prompt_rows(rows) if row[0] == "def" for inner in all_rows(row[3])]


def loaded_by(shelf, path, rows):
    """Return the paths that rows of a module may load at once, found or not."""
    listed = []
    for row in rows:
        if row[0] in ("use", "again"):
            listed.append(row[1])
        elif row[0] == "from":
            listed.extend(loaded_by_from(shelf, path, row))
    return listed


def loaded_by_from(shelf, path, row):
    """Return the paths that a from in a module may load, found or not."""
    taken = source(path, module_on(shelf, path)[0], row)
    if taken is None:
        return []
    names = shown_names(shelf, taken) if row[3] == "*" else [pair[0] for pair in row[3]]
    return [taken] + [taken + (name,) for name in names]


def shown_names(shelf, path):
    """Return the names that a module shows, which are none if it is not found."""
    if not is_found(shelf, path):
        return []
    return list(own_declared(module_on(shelf, path)[1], "show") or ())


def counting(shelf, path, paths):
    """Return those of paths, and of all above them, that are found and are not the module itself, in order."""
    listed = sorted(set([each[:end] for each in paths for end in range(1, len(each) + 1)]))
    return [each for each in listed if each != path and is_found(shelf, each)]


def used_by_all(shelf):
    """Return the lists of paths that all modules use, by their paths in order."""
    return {path: prompt_paths(shelf, path) for path in shelf.paths()}


def grouped(used):
    """Return for each path its ring, or a list of itself alone."""
    reach = {path: reached_from(used, path) for path in used}
    return {
        path: [each for each in used if each == path or (each in reach[path] and path in reach[each])] for path in used
    }


def reached_from(used, path):
    """Return the paths that a module uses, directly or through others, as the keys of a dict."""
    passed = {}
    waiting = list(used[path])
    while len(waiting) > 0:
        each = waiting.pop()
        if each not in passed:
            passed[each] = True
            waiting.extend(used[each])
    return passed


def first_ready(used, groups, left):
    """Return the first path left whose turn it can be; there is one, since rings do not use each other in a circle."""
    for path in left:
        if is_ready(groups[path], used, groups, left):
            return path
    return None


def is_ready(group, used, groups, left):
    """Tell whether what the members left of a ring use is in the ring or has had its turn."""
    needed = [each for member in group if member in left for each in used[member] if each in left]
    return all([groups[each][0] == group[0] for each in needed])
