"""Records of commits and images of maps, each in a frame."""

from spelledways.bytesform import get_entries, get_number, get_writes, put_entries, put_number, put_writes
from spelledways.errors import InvalidOctets
from spelledways.sums import HEAD, TAIL, put_frame, read_frames


def put_record(stamp, writes):
    """The record of a commit."""
    return put_frame(put_number(stamp) + put_writes(writes))


def put_image(stamp, entries):
    """The image of a map at a stamp."""
    return put_frame(put_number(stamp) + put_entries(entries))


def read_record(body):
    """The stamp and the writes that the body of a frame tells, or None."""
    try:
        stamp, at = get_number(body, 0)
        writes, behind = get_writes(body, at)
    except InvalidOctets:
        return None
    return (stamp, writes) if behind == len(body) else None


def read_image(body):
    """The stamp and the map that the body of a frame tells, or None."""
    try:
        stamp, at = get_number(body, 0)
        entries, behind = get_entries(body, at)
    except InvalidOctets:
        return None
    return (stamp, entries) if behind == len(body) else None


def get_image(octets):
    """The stamp and the map of octets that are just one image, else None."""
    bodies, _, word = read_frames(octets)
    return read_image(bodies[0]) if len(bodies) == 1 and word == "whole" else None


def records_of(octets):
    """The records from the begin on, the place behind them, and a word for what is there."""
    bodies, end, word = read_frames(octets)
    records = []
    place = 0
    for body in bodies:
        record = read_record(body)
        if record is None or (records and record[0] != records[-1][0] + 1):
            return tuple(records), place, "broken"
        records.append(record)
        place = place + HEAD + len(body) + TAIL
    return tuple(records), end, word
