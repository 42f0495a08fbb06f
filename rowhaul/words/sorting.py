"""Records in the order of keys, pairs of a column and a way."""


def by_keys(keys, records):
    """The records sorted by the keys, those alike in all of them as they stood."""
    marked = sorted([(key_by(keys, record), place) for place, record in enumerate(records)])
    return tuple([records[place] for _, place in marked])


def key_by(keys, record):
    """The words by which a record is sorted, so turned about that the least comes first."""
    return tuple([record[column] if way == "up" else -record[column] for column, way in keys])
