"""What disks can have behind a failure, whatever they keep of their pending writes."""

from keepbefore.records import values_after_restart


def all_kept(many):
    """All tuples of ascending numbers of so many pending writes, in tuple order."""
    parts = [()]
    for number in reversed(range(many)):
        # All that begin with this number stand behind () and ahead of those that begin with a later one.
        parts = [(), *[(number, *part) for part in parts], *parts[1:]]
    return parts


def contents_behind(lasting, pending, kept):
    """The contents of a disk that keeps these of its pending writes."""
    contents = list(lasting)
    for number in kept:
        cell, content = pending[number]
        contents[cell] = content
    return tuple(contents)


def all_contents(lasting, pending):
    """All different contents that a disk can have behind a failure."""
    # Any part can be kept, so each cell has its old content or one of its pending ones, whatever the others have.
    chances = [[content] for content in lasting]
    for cell, content in pending:
        if content not in chances[cell]:
            chances[cell].append(content)
    contents = [()]
    for choices in chances:
        contents = [(*some, content) for some in contents for content in choices]
    return contents


def all_values(lasting, pending):
    """The ascending list of all values of the blocks behind a restart, from what a pair shows of both disks."""
    slow_contents = all_contents(lasting[0], pending[0])
    found = set()
    for fast in all_contents(lasting[1], pending[1]):
        for slow in slow_contents:
            found.add(values_after_restart(slow, fast))
    return sorted(found)
