"""Ascending numbers as progressions (first, step, count)."""


def cut(rows):
    """The tuple of the progressions, from the left each as long as it can be, of the numbers of some progressions."""
    done = []
    for first, step, count in rows:
        at = 0
        while at < count:
            place = first + step * at
            many = many_taken(done, place, step, count - at)
            if many:
                done.append(longer(done.pop(), place, many))
            else:
                done.append((place, 0, 1))
            at += max(many, 1)
    return tuple(done)


def many_taken(done, place, step, count):
    """How many numbers of (place, step, count) the last of the progressions takes."""
    if not done:
        return 0
    first, distance, many = done[-1]
    if many == 1:
        return 1
    if place != first + distance * many:
        return 0
    return count if step == distance else 1


def longer(row, place, many):
    """A progression with so many more numbers, of which the place is the first one."""
    first, step, count = row
    return (first, place - first if count == 1 else step, count + many)
