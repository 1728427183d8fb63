"""Equality of plain values."""


def is_same_value(one, other):
    """Whether two values of tuples, strings, integers and truth values are equal, however deep they are nested."""
    todo = [(one, other)]
    while todo:
        left, right = todo.pop()
        if isinstance(left, tuple) and isinstance(right, tuple):
            if len(left) != len(right):
                return False
            todo.extend(list(zip(left, right)))
        elif left != right:
            return False
    return True
