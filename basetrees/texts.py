"""The text of a web, and what it tells: the sources and the copies of each name."""

from basetrees.limits import MOST_COPIES
from basetrees.names import is_name, is_one_of


def read_web(text):
    """Two dicts, of the sources and of the copies of each name, in lists; None if any value is no text of a web."""
    if not isinstance(text, str):
        return None
    all_sources = {}
    all_copies = {}
    for part in text.split("; "):
        name, *sources = part.split(" ")
        if not is_new_name(name, all_copies) or not _may_be_chosen(sources, all_copies):
            return None
        for source in sources:
            all_copies[source].append(name)
        all_sources[name] = sources
        all_copies[name] = []
    if len(all_sources) > MOST_COPIES:
        return None
    return all_sources, all_copies


def text_with(text, name, sources):
    """The text of a web with one more copy behind the others."""
    return "; ".join([text, " ".join([name, *sources])])


def text_without(text, at):
    """The text of a web without the copy at this place."""
    parts = text.split("; ")
    del parts[at]
    return "; ".join(parts)


def is_new_name(value, names):
    """Whether any value is a name, and none of these."""
    return is_name(value) and value not in names


def are_sources(values, names):
    """Whether a list or tuple of any values is one or two unlike names of these."""
    if len(values) == 1:
        return is_one_of(values[0], names)
    if len(values) == 2:
        return is_one_of(values[0], names) and is_one_of(values[1], names) and values[0] != values[1]
    return False


def first_full(sources, all_copies):
    """The first of the sources that has as many copies as it may have; None if there is none."""
    for source in sources:
        if len(all_copies[source]) == 2:
            return source
    return None


def _may_be_chosen(sources, all_copies):
    if not all_copies:
        return not sources
    return are_sources(sources, all_copies) and first_full(sources, all_copies) is None
