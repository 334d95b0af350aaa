"""Field forms of queries, and how many objects a response may have."""

from fieldquery.printing import form_text
from fieldquery.schemas import field_key


def field_form(query):
    """The normal form of a query without regard to keys."""
    return _without_keys(query.form)


def union_of(schema, forms):
    """The field form for the root type that has just what at least one of the forms has."""
    if len(forms) == 0:
        return {schema.root: {}}
    return united(forms)


def united(forms):
    """The union of at least one field form, all of them for the same place."""
    return {type_name: _united_row([form[type_name] for form in forms]) for type_name in forms[0]}


def common_of(first, second):
    """The field form that has just the fields that both forms have."""
    return {type_name: _common_row(first[type_name], second[type_name]) for type_name in first}


def contains(first, second):
    """Whether the first field form has all that the second one has."""
    return remainder_of(second, first) is None


def remainder_of(form, other):
    """What a field form has beyond another one, or None if nothing remains."""
    rest = {type_name: _row_beyond(form[type_name], other[type_name]) for type_name in form}
    has_fields = any([len(row) > 0 for row in rest.values()])
    return rest if has_fields else None


def combine(schema, queries):
    """The normal text of the union of the field forms of queries."""
    return form_text(schema, _union_of_queries(schema, queries))


def common(first, second):
    """The normal text of the common part of the field forms of two queries."""
    return form_text(first.schema, common_of(field_form(first), field_form(second)))


def remainder(queries, query):
    """The normal text of what a query asks for beyond other ones, or None."""
    rest = remainder_of(field_form(query), _union_of_queries(query.schema, queries))
    return None if rest is None else form_text(query.schema, rest)


def max_objects(query, length):
    """A bound for the objects of a response in which no list is longer than this length."""
    return _most_objects(query.schema, query.form, length)


def _union_of_queries(schema, queries):
    return union_of(schema, [field_form(query) for query in queries])


def _without_keys(form):
    return {type_name: _row_without_keys(row) for type_name, row in form.items()}


def _row_without_keys(row):
    # Two keys may have the same field, so that each one has a row of its own first.
    rows = []
    for field, below in row.values():
        below_any_key = None if below is None else _without_keys(below)
        rows.append({field_key(field): (field, below_any_key)})
    return _united_row(rows)


def _united_row(rows):
    groups = {}
    for row in rows:
        for key, entry in row.items():
            groups.setdefault(key, []).append(entry)
    return {key: _united_entry(groups[key]) for key in sorted(groups)}


def _united_entry(entries):
    field, below = entries[0]
    if below is None:
        return (field, None)
    return (field, united([entry[1] for entry in entries]))


def _common_row(first, second):
    return {key: _common_entry(first[key], second[key]) for key in sorted(first) if key in second}


def _common_entry(first, second):
    field, below = first
    if below is None:
        return (field, None)
    return (field, common_of(below, second[1]))


def _row_beyond(row, other):
    rest = {}
    for key in sorted(row):
        entry = _entry_beyond(row[key], other.get(key))
        if entry is not None:
            rest[key] = entry
    return rest


def _entry_beyond(entry, other):
    """What an entry has beyond another one, which may be None, or None if nothing remains."""
    if other is None:
        # The union of one entry is a copy of it: what is returned shares nothing with the arguments.
        return _united_entry([entry])
    field, below = entry
    rest = None if below is None else remainder_of(below, other[1])
    return None if rest is None else (field, rest)


def _most_objects(schema, form, length):
    return max([_most_for_type(schema, type_name, form[type_name], length) for type_name in form])


def _most_for_type(schema, type_name, row, length):
    many = 1
    for field, below in row.values():
        kind = schema.field_of(type_name, field[0])[2]
        if kind == "one":
            many += _most_objects(schema, below, length)
        elif kind == "many":
            many += length * _most_objects(schema, below, length)
    return many
