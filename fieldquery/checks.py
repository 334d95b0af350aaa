"""Checks that the entries of a query fit its schema."""

from fieldquery.errors import CheckFault
from fieldquery.reading import FRAGMENT


def check_entries(schema, place, entries):
    """Raise a fault for the first entry, in the order of the text, that does not fit the types of the place."""
    for entry in entries:
        if entry[0] == FRAGMENT:
            _check_fragment(schema, place, entry)
        else:
            _check_field(schema, place, entry)


def _check_fragment(schema, place, fragment):
    _, type_name, entries = fragment
    if type_name not in schema.names:
        raise CheckFault("unknown type", type_name)
    if type_name not in place:
        raise CheckFault("fragment never applies", type_name)
    check_entries(schema, (type_name,), entries)


def _check_field(schema, place, field):
    _, _, name, number, selection = field
    for type_name in place:
        reason = _reason_against(schema.field_of(type_name, name), number, selection)
        if reason is not None:
            raise CheckFault(reason, f"{type_name}.{name}")
    if selection is not None:
        check_entries(schema, _targets_from(schema, place, name), selection)


def _reason_against(definition, number, selection):
    """What is wrong with a field that has this definition, or None."""
    if definition is None:
        return "unknown field"
    _, has_argument, kind, _ = definition
    if has_argument and number is None:
        return "argument required"
    if not has_argument and number is not None:
        return "argument not allowed"
    if kind != "int" and selection is None:
        return "selection required"
    if kind == "int" and selection is not None:
        return "selection not allowed"
    return None


def _targets_from(schema, place, name):
    """The types that are targets of the field in at least one type of the place."""
    return schema.place_of([target for type_name in place for target in schema.targets_of(type_name, name)])
