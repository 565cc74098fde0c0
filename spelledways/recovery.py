"""What a disk tells behind a cut, and the disk mended so that records may be put behind it."""

from spelledways.keys import put_in_map
from spelledways.records import get_image, records_of


def base_of(disk):
    """The place, the stamp and the map of the image with the greater stamp; (None, 0, ()) without one."""
    found = (None, 0, ())
    for place in (0, 1):
        image = get_image(disk[place])
        if image is not None and (found[0] is None or image[0] > found[1]):
            found = (place,) + image
    return found


def counting(disk):
    """The log's records that count, and the word for what stands behind them, or for the gap ahead of them."""
    stamp = base_of(disk)[1]
    records, _, word = records_of(disk[2])
    above = tuple([record for record in records if record[0] > stamp])
    if above and above[0][0] != stamp + 1:
        return (), "gap"
    return above, word


def written_map(entries, writes):
    """A map with some writes put in."""
    for key, value in writes:
        entries = put_in_map(entries, key, value)
    return entries


def recover(disk):
    """The stamp and the map that a disk tells, and a word for what stands behind its records."""
    _, stamp, entries = base_of(disk)
    records, word = counting(disk)
    for number, writes in records:
        stamp = number
        entries = written_map(entries, writes)
    return stamp, entries, word


def mend(disk):
    """The disk with its log shortened to the end of its records; to nothing if none of them counts."""
    records, _ = counting(disk)
    end = records_of(disk[2])[1] if records else 0
    return disk[0], disk[1], disk[2][:end]
