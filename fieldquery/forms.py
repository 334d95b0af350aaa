"""Normal forms of queries."""

from fieldquery.checks import check_entries
from fieldquery.errors import CheckFault
from fieldquery.reading import FRAGMENT, read_query
from fieldquery.schemas import field_key


def normal_form(schema, text):
    """The normal form of a query for the root type."""
    entries = read_query(text)
    place = (schema.root,)
    # Conflicts come behind all other faults, so that all entries are checked ahead of any merging.
    check_entries(schema, place, entries)
    return _form_of(schema, place, entries)


def _form_of(schema, place, entries):
    return {type_name: _row_of(schema, type_name, entries) for type_name in place}


def _row_of(schema, type_name, entries):
    groups = _groups_by_key(type_name, entries)
    keys = sorted(groups)
    # Conflicts among the fields of this type come ahead of those below any of them.
    for key in keys:
        _check_no_conflict(type_name, key, groups[key])
    return {key: _merged(schema, type_name, groups[key]) for key in keys}


def _groups_by_key(type_name, entries):
    """For each key the pairs (field, selection) that apply to the type."""
    groups = {}
    for _, written_key, name, number, selection in _fields_for(type_name, entries):
        field = (name, number)
        key = field_key(field) if written_key is None else written_key
        groups.setdefault(key, []).append((field, selection))
    return groups


def _fields_for(type_name, entries):
    """The fields among the entries, and in fragments on the type, and so on."""
    fields = []
    for entry in entries:
        if entry[0] != FRAGMENT:
            fields.append(entry)
        elif entry[1] == type_name:
            fields.extend(_fields_for(type_name, entry[2]))
    return fields


def _check_no_conflict(type_name, key, group):
    first = group[0][0]
    for field, _ in group:
        if field != first:
            raise CheckFault("conflicting fields", f"{type_name}.{key}")


def _merged(schema, type_name, group):
    """The entry of a normal form for pairs (field, selection) with the same field."""
    field, selection = group[0]
    # The checks have made sure that just the fields of the kind "int" have no selection.
    if selection is None:
        return (field, None)
    entries = [entry for pair in group for entry in pair[1]]
    place = schema.targets_of(type_name, field[0])
    return (field, _form_of(schema, place, entries))
