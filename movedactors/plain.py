"""Equality of plain values, and the paths of their parts."""


def is_same_value(one, other):
    """Whether two values of tuples, strings, integers and truth values are equal, however deep they are nested.

    One of them may be anything. A truth value is no number here.
    """
    todo = [(one, other)]
    while todo:
        left, right = todo.pop()
        if isinstance(left, tuple) and isinstance(right, tuple):
            if len(left) != len(right):
                return False
            todo.extend(list(zip(left, right)))
        elif isinstance(left, bool) != isinstance(right, bool) or left != right:
            return False
    return True


def path_of(link):
    """The path of a part, told by a pair of the link of the part around it, or None, and the steps from there.

    Links are as long as paths only where one is asked for: making all paths of a deep term would take too long.
    """
    pieces = []
    while link is not None:
        link, steps = link
        pieces.append(steps)
    return tuple([k for steps in pieces[::-1] for k in steps])
