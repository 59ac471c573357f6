"""Keys: values and records, numbered so that states that are alike have the same key."""


def reference_places(kinds):
    """The list of the positions of the references among these kinds."""
    return [at for at, kind in enumerate(kinds) if kind[0] == "ref"]


def places_in_records(program):
    """A dict from each record kind to the positions of the references among its fields."""
    return {name: reference_places([kind for _, kind in fields]) for name, fields in program[0]}


def referred(values, places):
    """The list of the records to which the values at these positions refer."""
    return [values[at] for at in places if values[at] is not None]


def translated(values, places, numbers):
    """The values with new numbers of records at these positions."""
    changed = list(values)
    for at in places:
        if changed[at] is not None:
            changed[at] = numbers[changed[at]]
    return tuple(changed)


def translated_record(record, places, numbers):
    """The record with new numbers of records in its fields."""
    name, live, fields = record
    # A gone record has no fields.
    return (name, live, translated(fields, places[name], numbers)) if live else record


def neighbours(record, places):
    """The list of the records to which the fields of a record refer."""
    name, live, fields = record
    return referred(fields, places[name]) if live else []


def visit_records(places, first, records, fixed):
    """The list of the records in the order in which they are visited.

    The fixed ones come first, then what they refer to, then the list of the first ones.
    """
    order = list(fixed)
    seen = {index: True for index in fixed}
    starts = [found for index in fixed for found in neighbours(records[index], places)]
    # What is to be visited next stands last.
    pending = [*starts, *first]
    pending.reverse()
    while pending:
        index = pending.pop()
        if index not in seen:
            seen[index] = True
            order.append(index)
            pending.extend(list(reversed(neighbours(records[index], places))))
    return order


def number_key(program, kinds, values, records, fixed):
    """The pair of the key and of the tuple of the visited records, in the order of their numbers."""
    own = reference_places(kinds)
    places = places_in_records(program)
    order = visit_records(places, referred(values, own), records, fixed)
    numbers = {index: at for at, index in enumerate(order)}
    kept = [translated_record(records[index], places, numbers) for index in order]
    return (translated(values, own, numbers), tuple(kept)), tuple(order)


def is_key(program, kinds, key, fixed):
    """True if the plain value is a key with values of these kinds and so many fixed records."""
    if not isinstance(key, tuple) or len(key) != 2:
        return False
    values, records = key
    if not isinstance(values, tuple) or not isinstance(records, tuple) or len(records) < fixed:
        return False
    field_kinds = {name: [kind for _, kind in fields] for name, fields in program[0]}
    if not all([has_record_form(record, field_kinds) for record in records]):
        return False
    names = [record[0] for record in records]
    for name, live, fields in records:
        if live and not all_fit(fields, field_kinds[name], names):
            return False
    if not all_fit(values, kinds, names):
        return False
    return number_key(program, kinds, values, records, tuple(range(fixed)))[0] == key


def has_record_form(record, field_kinds):
    """True if a plain value has the form of a record, whatever its fields are."""
    if not isinstance(record, tuple) or len(record) != 3:
        return False
    name, live, fields = record
    if not isinstance(name, str) or name not in field_kinds or not isinstance(fields, tuple):
        return False
    return live is True or live is False and fields == ()


def all_fit(values, kinds, names):
    """True if there is one value for each kind, and it has this kind."""
    if len(values) != len(kinds):
        return False
    return all([has_kind(value, kind, names) for value, kind in zip(values, kinds)])


def has_kind(value, kind, names):
    """True if a plain value has the kind, where the records are of the kinds with these names."""
    if kind[0] == "flag":
        return value is True or value is False
    if kind[0] == "ref" and value is None:
        return True
    # True and False would pass for 1 and 0.
    if not isinstance(value, int) or isinstance(value, bool):
        return False
    if kind[0] == "num":
        return kind[1] <= value <= kind[2]
    return 0 <= value < len(names) and names[value] == kind[1]
