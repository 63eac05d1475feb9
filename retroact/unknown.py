"""Forms of an unknown number, and intervals of its values."""


def value_at(form, u):
    """Return the value of a form for a number."""
    slope, start = form
    return slope * u + start


def bounds(form, interval):
    """Return the pair of the least and the greatest value of a form on an interval."""
    ends = sorted([value_at(form, u) for u in interval])
    return (ends[0], ends[1])


def part_at_least(form, interval):
    """Return the interval of the numbers for which a form is at least 0, or None if there are none."""
    slope, start = form
    least, greatest = interval
    if slope > 0:
        least = max(least, -(start // slope))
    elif slope < 0:
        greatest = min(greatest, start // -slope)
    elif start < 0:
        return None
    return (least, greatest) if least <= greatest else None


def parts_range(intervals, least, greatest):
    """Tell if a list of intervals parts a range."""
    due = least
    for first, last in intervals:
        if first != due or last < first:
            return False
        due = last + 1
    # A range whose least number is above its greatest one has no numbers, and is parted by the empty list alone.
    return due == max(least, greatest + 1)


def united(intervals):
    """Return the longest intervals of the numbers of ascending intervals, of which no two overlap."""
    found = []
    for first, last in intervals:
        if found and found[-1][1] + 1 == first:
            found[-1] = (found[-1][0], last)
        else:
            found.append((first, last))
    return found
