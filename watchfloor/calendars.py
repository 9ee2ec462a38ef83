"""Who is on call at a time: spans of a week, layers and schedules."""

from math import lcm


def in_spans(week, spans, time):
    """Tell whether a time lies in one of the spans of a week."""
    at = time % week
    return any(first <= at < last for first, last in spans)


def on_layer(week, layer, time):
    """Return the member whom a layer has at a time, or None."""
    members, start, shift, spans = layer
    if time < start or (spans and not in_spans(week, spans, time)):
        return None
    return members[(time - start) // shift % len(members)]


def on_call(week, schedule, time):
    """Return who is on call by a schedule at a time, or None."""
    _, layers, standins = schedule
    for first, last, person in reversed(standins):
        if first <= time < last:
            return person
    for layer in reversed(layers):
        member = on_layer(week, layer, time)
        if member is not None:
            return member
    return None


def next_break(week, schedule, time):
    """Return the least break of a schedule that is greater than a time, or None."""
    _, layers, standins = schedule
    found = [at for first, last, _ in standins for at in (first, last) if at > time]
    for layer in layers:
        found.extend(breaks_of_layer(week, layer, time))
    return min(found, default=None)


def breaks_of_layer(week, layer, time):
    """Return the next break after a time of each sort that a layer has."""
    members, start, shift, spans = layer
    if time < start:
        return [start]
    found = []
    if len(members) > 1:
        found.append(time + shift - (time - start) % shift)
    for span in spans:
        for edge in span:
            found.append(time + 1 + (edge - time - 1) % week)
    return found


def settled(schedule):
    """Return the settled time of a schedule."""
    _, layers, standins = schedule
    starts = [start for _, start, _, _ in layers]
    ends = [last for _, last, _ in standins]
    return max([0] + starts + ends)


def period(week, schedule):
    """Return the number of times after which a schedule repeats from its settled time on."""
    found = 1
    for members, _, shift, spans in schedule[1]:
        if len(members) > 1:
            found = lcm(found, shift * len(members))
        if spans:
            found = lcm(found, week)
    return found


def stretches(week, schedule, first, last):
    """Return when who, or nobody, is on call from a first time on and before a last one."""
    found = []
    at = first
    while at < last:
        begun = at
        person = on_call(week, schedule, at)
        following = next_break(week, schedule, at)
        at = last if following is None else min(following, last)
        if found and found[-1][2] == person:
            begun = found.pop()[0]
        found.append((begun, at, person))
    return found


def duties(week, schedule, first, last):
    """Return for how many of these times each person is on call, and for how many of them nobody is."""
    counts = {}
    nobody = 0
    for begun, ended, person in stretches(week, schedule, first, last):
        if person is None:
            nobody += ended - begun
        else:
            counts[person] = counts.get(person, 0) + ended - begun
    return list(counts.items()), nobody
