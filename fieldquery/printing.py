"""Normal texts of normal forms."""

from fieldquery.schemas import field_key


def form_text(schema, form):
    """The normal text of a normal form of some place of the schema."""
    place = schema.place_of(form)
    rows = [form[name] for name in place]
    shared = _shared_keys(rows)
    parts = [_entry_text(schema, key, rows[0][key]) for key in shared]
    for name in place:
        further = [key for key in sorted(form[name]) if key not in shared]
        if further:
            own = [_entry_text(schema, key, form[name][key]) for key in further]
            parts.append(f"... {name} {_in_brackets(own)}")
    return _in_brackets(parts)


def _shared_keys(rows):
    keys = sorted({key for row in rows for key in row})
    return [key for key in keys if _is_shared(rows, key)]


def _is_shared(rows, key):
    # Equal forms below have the same types, so that equal entries have the same targets.
    entry = rows[0].get(key)
    return all([row.get(key) == entry for row in rows])


def _entry_text(schema, key, entry):
    field, below = entry
    name, number = field
    text = name if number is None else f"{name}({number})"
    if key != field_key(field):
        text = f"{key}: {text}"
    if below is not None:
        text = f"{text} {form_text(schema, below)}"
    return text


def _in_brackets(parts):
    return " ".join(["{", *parts, "}"])
