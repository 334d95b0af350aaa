"""What is missing of a query, for what is known."""

from fieldquery.fieldforms import united
from fieldquery.known import KnownObject, objects_in


def missing_of(form, known):
    """What of a field form is missing for a known object: a field form for the same place, or None if nothing is."""
    row = _missing_row(form[known.type_name], known)
    if len(row) == 0:
        return None
    return {type_name: row if type_name == known.type_name else {} for type_name in form}


def with_first_missing(schema, form, known):
    """The known object with a value for the first field of a field form that is missing, or None if nothing is."""
    row = form[known.type_name]
    for key in sorted(row):
        field, below = row[key]
        if key not in known.facts:
            return known.with_fact(key, _sample_value(schema, known.type_name, field))
        value = _value_with_first_missing(schema, below, known.facts[key])
        if value is not None:
            return known.with_fact(key, value)
    return None


def _missing_row(row, known):
    rest = {}
    for key in sorted(row):
        entry = _missing_entry(key, row[key], known)
        if entry is not None:
            rest[key] = entry
    return rest


def _missing_entry(key, entry, known):
    if key not in known.facts:
        return entry
    field, below = entry
    rests = [missing_of(below, told) for told in objects_in(known.facts[key])]
    found = [rest for rest in rests if rest is not None]
    return (field, united(found)) if len(found) > 0 else None


def _value_with_first_missing(schema, below, value):
    """A known value with one more field of one of its objects, or None if nothing is missing below it."""
    objects = objects_in(value)
    for at in range(len(objects)):
        more = with_first_missing(schema, below, objects[at])
        if more is not None:
            return [*value[:at], more, *value[at + 1:]] if isinstance(value, list) else more
    return None


def _sample_value(schema, type_name, field):
    kind = schema.field_of(type_name, field[0])[2]
    if kind == "int":
        return 0
    sample = KnownObject(schema.targets_of(type_name, field[0])[0], {})
    return [sample] if kind == "many" else sample
