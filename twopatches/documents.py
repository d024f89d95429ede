"""Documents, and what patches do to them."""

from twopatches.errors import Large, NoDocument

MOST_DEPTH = 8
MOST_PARTS = 200


def check(value):
    """Raise NoDocument or Large if a value is no document."""
    path = wrong_path(value)
    if path is not None:
        raise NoDocument(path)
    if depth(value) > MOST_DEPTH:
        raise Large("depth")
    if parts(value) > MOST_PARTS:
        raise Large("parts")


def check_row(row):
    """Raise the error of the first patch that is no document, or Large if the row has too many parts."""
    for patch in row:
        check(patch)
    if sum([parts(patch) for patch in row]) > MOST_PARTS:
        raise Large("row")


def applied(document, patch):
    """Return the document after a patch."""
    check(document)
    check(patch)
    return patched(document, patch)


def run(document, row):
    """Return the document after the patches of a row."""
    check(document)
    check_row(row)
    return after_row(document, row)


def after_row(document, row):
    """Return what run returns, without checking anything, for documents that may be larger."""
    after = copied(document)
    for patch in row:
        after = patched(after, patch)
    return after


def patched(document, patch):
    """Return what applied returns, without checking anything, for documents that may be larger."""
    if not isinstance(patch, dict):
        return copied(patch)
    target = document if isinstance(document, dict) else {}
    after = {key: copied(target[key]) for key in target if key not in patch}
    for key in patch:
        if patch[key] is not None:
            after[key] = patched(target.get(key), patch[key])
    return after


def copied(document):
    """Return a document that is equal and shares no list or dictionary with this one."""
    if isinstance(document, dict):
        return {key: copied(document[key]) for key in document}
    if isinstance(document, list):
        return list(document)
    return document


def depth(document):
    """Return how deep the objects of a document are nested."""
    if not isinstance(document, dict):
        return 0
    return 1 + max([depth(document[key]) for key in document], default=0)


def parts(document):
    """Return the number of documents in a document, itself counted."""
    if not isinstance(document, dict):
        return 1
    return 1 + sum([parts(document[key]) for key in document])


def wrong_path(value):
    """Return the path of the first part of a value that is wrong, or None if there is none."""
    if not isinstance(value, dict):
        return None if is_atom(value) else ()
    # Keys of several kinds cannot be sorted, so they are looked at first.
    if not all([isinstance(key, str) for key in value]):
        return ()
    for key in sorted(value):
        path = wrong_path(value[key])
        if path is not None:
            return (key, *path)
    return None


def is_atom(value):
    """Return whether a value of any kind is an atom."""
    if isinstance(value, list):
        return all([is_element(element) for element in value])
    return is_element(value)


def is_element(value):
    """Return whether a value of any kind may be an element of a list: None, an integer or a string."""
    # True and False are integers for isinstance.
    return value is None or isinstance(value, (int, str)) and not isinstance(value, bool)
