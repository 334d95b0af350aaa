"""Schemas: types, their fields, and the places that fields lead to."""

from fieldquery.errors import BadSchema

MOST_TYPES = 5
MOST_FIELDS = 6
LONGEST_NAME = 8
CAPITALS = "ABCDEFGHIJKLMNOPQRSTUVWXYZ"
SMALL_LETTERS = "abcdefghijklmnopqrstuvwxyz"
KINDS = ("int", "one", "many")


class Schema:
    """A schema: types, pairs of a name and definitions of fields."""

    def __init__(self, types):
        _check_types(types)
        self.types = types
        self.names = tuple([pair[0] for pair in types])
        self._definitions = {
            (name, definition[0]): definition for name, fields in types for definition in fields
        }

    @property
    def root(self):
        """The name of the root type."""
        return self.names[0]

    def field_of(self, type_name, name):
        """The definition of a field as it was given, or None."""
        return self._definitions.get((type_name, name))

    def place_of(self, type_names):
        """The tuple of these types, in the order of the schema, each once."""
        return tuple([name for name in self.names if name in type_names])

    def targets_of(self, type_name, name):
        """The place of a field that the type has."""
        targets = self.field_of(type_name, name)[3]
        return self.place_of(targets)


def field_key(field):
    """The field key of a pair (name, number)."""
    name, number = field
    return name if number is None else f"{name}{number}"


def _check_types(types):
    is_tuple = isinstance(types, tuple)
    _demand(is_tuple and 1 <= len(types) <= MOST_TYPES, "a schema is a tuple of 1 to 5 types")
    for pair in types:
        _check_pair(pair)
    names = [pair[0] for pair in types]
    _demand(_all_differ(names), "two types have the same name")
    # Targets may be types that come later, so all names are needed first.
    for name, fields in types:
        _check_fields(name, fields, names)


def _check_pair(pair):
    _demand(isinstance(pair, tuple) and len(pair) == 2, "types are pairs (name, fields)")
    name, fields = pair
    _demand(_is_type_name(name), "names of types are a capital and at most 7 more letters")
    is_tuple = isinstance(fields, tuple)
    _demand(is_tuple and len(fields) <= MOST_FIELDS, f"{name}: fields are a tuple of at most 6")


def _check_fields(type_name, fields, type_names):
    for definition in fields:
        _check_definition(type_name, definition, type_names)
    names = [definition[0] for definition in fields]
    _demand(_all_differ(names), f"{type_name}: two fields have the same name")


def _check_definition(type_name, definition, type_names):
    is_tuple = isinstance(definition, tuple)
    _demand(is_tuple and len(definition) == 4, f"{type_name}: a definition is a tuple of 4")
    name, has_argument, kind, targets = definition
    _demand(_is_field_name(name), f"{type_name}: the name of a field is 1 to 8 small letters")
    _demand(isinstance(has_argument, bool), f"{type_name}.{name}: has_argument is True or False")
    _demand(isinstance(kind, str) and kind in KINDS, f"{type_name}.{name}: unknown kind")
    _demand(_are_names(targets, type_names), f"{type_name}.{name}: targets are types of the schema")
    _demand(_all_differ(targets), f"{type_name}.{name}: a target is told twice")
    _demand((len(targets) == 0) == (kind == "int"), f"{type_name}.{name}: only an int has no targets")


def _demand(holds, message):
    if not holds:
        raise BadSchema(message)


def _is_type_name(name):
    if not _is_short_text(name):
        return False
    return name[0] in CAPITALS and _has_only(name, CAPITALS + SMALL_LETTERS)


def _is_field_name(name):
    return _is_short_text(name) and _has_only(name, SMALL_LETTERS)


def _is_short_text(name):
    return isinstance(name, str) and 1 <= len(name) <= LONGEST_NAME


def _has_only(text, letters):
    return all([letter in letters for letter in text])


def _are_names(targets, type_names):
    if not isinstance(targets, tuple):
        return False
    return all([isinstance(target, str) and target in type_names for target in targets])


def _all_differ(names):
    return len(set(names)) == len(names)
