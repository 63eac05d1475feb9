"""Tracks: what a number is for all values of the unknown at once.

A track is an ascending list of segments (least, greatest, slope, start): for each u from the least to the greatest
number it is slope * u + start. The slope is 0 if these are one number. A domain is an ascending list of intervals of
which no two touch. A track may have more numbers than those of the domain that it is looked at for. Tracks are kept in
several places at once: none is changed once it is made.
"""

from retroact.unknown import united


def put(track, least, greatest, slope, start):
    """Put a segment behind a track that is being made, into its last one where a single form tells both."""
    if least == greatest:
        slope, start = 0, slope * least + start
    if track and track[-1][1] + 1 == least:
        first, last, steepness, beginning = track[-1]
        # A segment with a single number is part of any form with this value there.
        if steepness == slope and beginning == start or least == greatest and steepness * least + beginning == start:
            track[-1] = (first, greatest, steepness, beginning)
            return
        if first == last and slope * first + start == beginning:
            track[-1] = (first, greatest, slope, start)
            return
    track.append((least, greatest, slope, start))


def reach(domain, least, greatest):
    """Put an interval behind a domain that is being made, into its last one if it touches that."""
    if domain and domain[-1][1] + 1 == least:
        domain[-1] = (domain[-1][0], greatest)
    else:
        domain.append((least, greatest))


def along(domain, slope, start):
    """Return the track that has one form on a domain."""
    track = []
    for least, greatest in domain:
        put(track, least, greatest, slope, start)
    return track


def whole(rows):
    """Return the track of segments that are in no order, of which no two overlap."""
    track = []
    for least, greatest, slope, start in sorted(rows):
        put(track, least, greatest, slope, start)
    return track


def domain_of(track):
    """Return the domain of a track."""
    return united([(segment[0], segment[1]) for segment in track])


def cut_to(track, domain):
    """Return the part of a track that lies in a domain."""
    if len(domain) == 1 and domain[0][0] <= track[0][0] and track[-1][1] <= domain[0][1]:
        return track
    found = []
    at = 0
    for least, greatest in domain:
        at = _place_of(track, least, at)
        while at < len(track) and track[at][0] <= greatest:
            first, last, slope, start = track[at]
            put(found, max(first, least), min(last, greatest), slope, start)
            if last > greatest:
                break
            at += 1
    return found


def pairs(first, second):
    """Return a row (least, greatest, slope, start, slope, start) for each part on which two tracks have one form each.

    The first track has all numbers of the second one.
    """
    rows = []
    at = 0
    for least, greatest, slope, start in second:
        at = _place_of(first, least, at)
        while first[at][1] < greatest:
            rows.append((least, first[at][1], first[at][2], first[at][3], slope, start))
            least = first[at][1] + 1
            at += 1
        rows.append((least, greatest, first[at][2], first[at][3], slope, start))
    return rows


def signs(least, greatest, slope, start):
    """Return the rows (least, greatest, sign) of the parts of an interval on which a form is below 0, 0, or above 0."""
    if slope == 0:
        return [(least, greatest, (start > 0) - (start < 0))]
    if slope < 0:
        return [(first, last, -sign) for first, last, sign in signs(least, greatest, -slope, -start)]
    # The least numbers for which the form is at least 0, and at least 1.
    zero = -(start // slope)
    above = -((start - 1) // slope)
    rows = [(least, min(greatest, zero - 1), -1), (max(least, zero), min(greatest, above - 1), 0),
            (max(least, above), greatest, 1)]
    return [row for row in rows if row[0] <= row[1]]


def truth_of(track):
    """Return the pair of the domains on which a track is true, and on which it is not."""
    yes = []
    no = []
    for least, greatest, slope, start in track:
        for first, last, sign in signs(least, greatest, slope, start):
            reach(no if sign == 0 else yes, first, last)
    return (yes, no)


def one_track(tracks, domains):
    """Return the track that is like each of the tracks on the domain of the same index; no two domains overlap."""
    if all([track == tracks[0] for track in tracks]):
        return tracks[0]
    rows = []
    for track, domain in zip(tracks, domains):
        rows.extend(cut_to(track, domain))
    return whole(rows)


def one_domain(domains):
    """Return the domain with all numbers of domains of which no two overlap."""
    return united(sorted([interval for domain in domains for interval in domain]))


def _place_of(track, u, at):
    """Return the index, from `at` on, of the first segment of a track that does not end before a number."""
    if at < len(track) and track[at][1] >= u:
        return at
    low, high = at, len(track)
    while low < high:
        middle = (low + high) // 2
        if track[middle][1] < u:
            low = middle + 1
        else:
            high = middle
    return low
