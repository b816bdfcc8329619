"""The text of a web, and the table of it: for each name the tuple of its sources."""

from basetrees.limits import MOST_COPIES
from basetrees.names import is_name, is_one_of


def read_web(text):
    """The table of the web with this text; None if any value is no such text."""
    if not isinstance(text, str):
        return None
    table = {}
    for part in text.split("; "):
        name, *sources = part.split(" ")
        if not _may_come(table, name, sources):
            return None
        table[name] = tuple(sources)
    if len(table) > MOST_COPIES:
        return None
    return table


def write_web(table):
    """The text of the web with this table."""
    return "; ".join([" ".join([name, *table[name]]) for name in table])


def is_new_name(table, value):
    """Whether any value is a name, and none of a copy."""
    return is_name(value) and value not in table


def are_sources(table, sources):
    """Whether a list or tuple of any values is one or two unlike names of copies."""
    if len(sources) not in (1, 2):
        return False
    if not all([is_one_of(source, table) for source in sources]):
        return False
    return len(sources) == 1 or sources[0] != sources[1]


def copies_of(table, source):
    """The tuple of the copies of a source, in the order of the names."""
    return tuple([copy for copy in table if source in table[copy]])


def is_full(table, source):
    """Whether a source has as many copies as it may have."""
    return len(copies_of(table, source)) == 2


def _may_come(table, name, sources):
    if not is_new_name(table, name):
        return False
    if not table:
        return not sources
    return are_sources(table, sources) and not any([is_full(table, source) for source in sources])
