"""Points 9, 10 and 11: checks of queries, conflicts, normal forms."""

import unittest

from fieldquery.errors import CheckFault, FieldError, SyntaxFault
from fieldquery.forms import normal_form
from fieldquery.reading import read_query
from fieldquery.schemas import Schema, field_key
from samples import Numbers, any_query, dicts_in, example_schema, sides_schema, wide_schema


def entry(name, below=None, number=None):
    return ((name, number), below)


# Places of two types that differ in each way that a check looks at.
MIXED = (
    ("Root", (
        ("both", False, "many", ("B", "A")), ("a", True, "one", ("A",)), ("all", False, "one", ("Root", "A", "B")),
    )),
    ("A", (
        ("alike", False, "int", ()), ("mine", False, "int", ()), ("half", True, "int", ()), ("deep", False, "int", ()),
        ("to", False, "one", ("A",)), ("twist", True, "one", ("A",)),
    )),
    ("B", (
        ("alike", False, "int", ()), ("own", False, "int", ()), ("half", False, "int", ()),
        ("deep", False, "many", ("B",)), ("to", False, "many", ("B", "Root")), ("twist", False, "int", ()),
    )),
)


class FormsCase(unittest.TestCase):
    SCHEMA = staticmethod(lambda: Schema(MIXED))

    def assert_fault(self, text, reason, name):
        with self.subTest(text):
            with self.assertRaises(CheckFault) as caught:
                normal_form(self.SCHEMA(), text)
            self.assertEqual((caught.exception.reason, caught.exception.name), (reason, name))
            self.assertIsInstance(caught.exception, FieldError)

    def assert_form(self, text, form):
        with self.subTest(text):
            found = normal_form(self.SCHEMA(), text)
            self.assertEqual(found, form)
            self.assertEqual(orders(found), orders(form))

    def assert_same(self, *texts):
        forms = [normal_form(self.SCHEMA(), text) for text in texts]
        for text, form in zip(texts, forms):
            with self.subTest(text):
                self.assertEqual(form, forms[0])
                self.assertEqual(orders(form), orders(forms[0]))


def orders(form):
    """The orders of types and keys throughout a form."""
    return [(name, [(key, below and orders(below)) for key, (_, below) in row.items()]) for name, row in form.items()]


class TestReasons(FormsCase):
    def test_unknown_type(self):
        for name in ("C", "Roo", "Roots", "ROOT", "Abc"):
            self.assert_fault(f"{{ ... {name} {{ }} }}", "unknown type", name)
            self.assert_fault(f"{{ both {{ ... {name} {{ }} }} }}", "unknown type", name)

    def test_fragment_never_applies(self):
        self.assert_fault("{ ... A { } }", "fragment never applies", "A")
        self.assert_fault("{ both { ... Root { } } }", "fragment never applies", "Root")
        self.assert_fault("{ a(1) { ... B { } } }", "fragment never applies", "B")

    def test_a_fragment_is_read_for_its_type_alone(self):
        self.assert_fault("{ both { ... A { ... B { } } } }", "fragment never applies", "B")
        self.assert_fault("{ all { ... A { ... Root { } } } }", "fragment never applies", "Root")
        self.assert_fault("{ both { ... A { own } } }", "unknown field", "A.own")
        self.assert_fault("{ both { ... B { mine } } }", "unknown field", "B.mine")
        self.assert_form("{ ... Root { ... Root { } } }", {"Root": {}})

    def test_unknown_field(self):
        for name in ("b", "alike", "aa", "a1", "both1", "Root".lower()):
            self.assert_fault(f"{{ {name} }}", "unknown field", f"Root.{name}")
            self.assert_fault(f"{{ k: {name}(7) {{ }} }}", "unknown field", f"Root.{name}")

    def test_a_field_key_is_no_name(self):
        self.assert_fault("{ a7 { } }", "unknown field", "Root.a7")

    def test_argument_required(self):
        self.assert_fault("{ a { } }", "argument required", "Root.a")
        self.assert_fault("{ k: a { } }", "argument required", "Root.a")
        self.assert_fault("{ a }", "argument required", "Root.a")
        self.assert_fault("{ a(1) { half } }", "argument required", "A.half")

    def test_number_0_is_an_argument(self):
        self.assert_form("{ a(0) { } }", {"Root": {"a0": entry("a", {"A": {}}, 0)}})
        self.assert_fault("{ both(0) { } }", "argument not allowed", "Root.both")

    def test_argument_not_allowed(self):
        self.assert_fault("{ both(7) { } }", "argument not allowed", "Root.both")
        self.assert_fault("{ both(7) }", "argument not allowed", "Root.both")
        self.assert_fault("{ a(1) { mine(1) { } } }", "argument not allowed", "A.mine")

    def test_selection_required(self):
        self.assert_fault("{ a(1) }", "selection required", "Root.a")
        self.assert_fault("{ k: both }", "selection required", "Root.both")

    def test_selection_not_allowed(self):
        self.assert_fault("{ a(1) { mine { } } }", "selection not allowed", "A.mine")
        self.assert_fault("{ a(1) { half(1) { x } } }", "selection not allowed", "A.half")
        self.assert_fault("{ a(1) { k: mine { mine } } }", "selection not allowed", "A.mine")

    def test_an_empty_selection_is_one(self):
        self.assert_form("{ both { } }", {"Root": {"both": entry("both", {"A": {}, "B": {}})}})


class TestPlacesOfSeveralTypes(FormsCase):
    def test_one_of_the_types_has_it_not(self):
        self.assert_fault("{ both { mine } }", "unknown field", "B.mine")
        self.assert_fault("{ both { own } }", "unknown field", "A.own")

    def test_none_of_the_types_has_it(self):
        self.assert_fault("{ both { nope } }", "unknown field", "A.nope")

    def test_argument_for_one_of_the_types(self):
        self.assert_fault("{ both { half } }", "argument required", "A.half")
        self.assert_fault("{ both { half(1) } }", "argument not allowed", "B.half")

    def test_kinds_with_and_without_a_selection(self):
        self.assert_fault("{ both { deep } }", "selection required", "B.deep")
        self.assert_fault("{ both { deep { } } }", "selection not allowed", "A.deep")

    def test_the_first_type_counts_ahead_of_the_first_reason(self):
        self.assert_fault("{ both { twist } }", "argument required", "A.twist")
        self.assert_fault("{ both { twist(1) } }", "selection required", "A.twist")
        self.assert_fault("{ both { twist { } } }", "argument required", "A.twist")
        self.assert_fault("{ both { twist(1) { } } }", "argument not allowed", "B.twist")
        self.assert_fault("{ all { half(1) } }", "unknown field", "Root.half")

    def test_types_in_the_order_of_the_schema(self):
        # The targets of both are written the other way round.
        self.assert_fault("{ both { nope } }", "unknown field", "A.nope")

    def test_selections_are_read_for_all_targets(self):
        self.assert_fault("{ both { to { mine } } }", "unknown field", "Root.mine")
        self.assert_fault("{ both { to { both { } } } }", "unknown field", "A.both")
        for name in ("Root", "A", "B"):
            self.assert_form(f"{{ both {{ to {{ ... {name} {{ }} }} }} }}", {"Root": {"both": entry("both", {
                "A": {"to": entry("to", {"A": {}})}, "B": {"to": entry("to", {"Root": {}, "B": {}})},
            })}})
        self.assert_fault("{ a(1) { to { ... B { } } } }", "fragment never applies", "B")
        self.assert_fault("{ both { ... A { to { ... B { } } } } }", "fragment never applies", "B")
        self.assert_fault("{ both { ... B { to { ... A { } } } } }", "fragment never applies", "A")

    def test_fragments_on_each_type(self):
        self.assert_form("{ both { ... B { own half } ... A { half(1) mine } alike } }", {"Root": {"both": entry("both", {
            "A": {"alike": entry("alike"), "half1": entry("half", None, 1), "mine": entry("mine")},
            "B": {"alike": entry("alike"), "half": entry("half"), "own": entry("own")},
        })}})


class TestOrderOfFaults(FormsCase):
    def test_in_the_order_of_the_text(self):
        self.assert_fault("{ nope a }", "unknown field", "Root.nope")
        self.assert_fault("{ a nope }", "argument required", "Root.a")
        self.assert_fault("{ both { } ... X { } nope }", "unknown type", "X")
        self.assert_fault("{ ... A { } ... X { } }", "fragment never applies", "A")

    def test_an_entry_ahead_of_what_is_in_it(self):
        self.assert_fault("{ both(1) { nope } }", "argument not allowed", "Root.both")
        self.assert_fault("{ nope { ... X { } } }", "unknown field", "Root.nope")
        self.assert_fault("{ ... A { nope } }", "fragment never applies", "A")
        self.assert_fault("{ ... X { ... A { } } }", "unknown type", "X")
        self.assert_fault("{ a(1) { mine { nope } } }", "selection not allowed", "A.mine")

    def test_what_is_in_an_entry_ahead_of_the_next_one(self):
        self.assert_fault("{ both { nope } a }", "unknown field", "A.nope")
        self.assert_fault("{ ... Root { both } nope }", "selection required", "Root.both")
        self.assert_fault("{ both { ... A { to { to { nope } } } } nope }", "unknown field", "A.nope")
        self.assert_fault("{ a(1) { to { to { mine(1) } } half } }", "argument not allowed", "A.mine")

    def test_deep_entries_are_looked_at(self):
        self.assert_fault("{ a(1) { to { to { nope } } } }", "unknown field", "A.nope")
        self.assert_fault("{ both { ... B { deep { ... B { deep { ... B { nope } } } } } } }", "unknown field", "B.nope")
        self.assert_fault("{ both { } both { } both { ... A { } ... B { mine } } }", "unknown field", "B.mine")

    def test_a_text_that_is_no_query_comes_first(self):
        with self.assertRaises(SyntaxFault) as caught:
            normal_form(Schema(MIXED), "{ nope a a: both { } a: a(1) { } ")
        self.assertEqual(caught.exception.offset, 33)
        self.assertRaises(SyntaxFault, normal_form, Schema(MIXED), "{ ... X { } } }")


class TestConflicts(FormsCase):
    def assert_conflict(self, text, name):
        self.assert_fault(text, "conflicting fields", name)

    def test_names_that_differ(self):
        self.assert_conflict("{ a(1) { k: alike k: mine } }", "A.k")
        self.assert_conflict("{ a(1) { mine: alike mine } }", "A.mine")
        self.assert_conflict("{ k: a(1) { } k: both { } }", "Root.k")

    def test_numbers_that_differ(self):
        self.assert_conflict("{ k: a(1) { } k: a(2) { } }", "Root.k")
        self.assert_conflict("{ a1: a(2) { } a(1) { } }", "Root.a1")
        self.assert_conflict("{ a10: a(1) { } a(10) { } }", "Root.a10")

    def test_equal_selections_do_not_help(self):
        self.assert_conflict("{ k: a(1) { mine } k: a(2) { mine } }", "Root.k")

    def test_the_third_field(self):
        self.assert_conflict("{ a(1) { k: mine k: mine k: alike } }", "A.k")

    def test_no_conflict_with_another_key(self):
        self.assert_form("{ a(1) { } k: a(2) { } }", {"Root": {
            "a1": entry("a", {"A": {}}, 1), "k": entry("a", {"A": {}}, 2),
        }})

    def test_through_fragments(self):
        self.assert_conflict("{ k: a(1) { } ... Root { k: both { } } }", "Root.k")
        self.assert_conflict("{ ... Root { k: a(1) { } } ... Root { ... Root { k: a(2) { } } } }", "Root.k")

    def test_no_conflict_between_types(self):
        self.assert_form("{ both { ... A { k: mine } ... B { k: own } } }", {"Root": {"both": entry("both", {
            "A": {"k": entry("mine")}, "B": {"k": entry("own")},
        })}})

    def test_with_a_field_for_all_types(self):
        self.assert_conflict("{ both { k: alike ... B { k: own } } }", "B.k")
        self.assert_conflict("{ both { ... B { k: own } k: alike } }", "B.k")

    def test_merged_selections(self):
        self.assert_conflict("{ both { ... A { k: mine } } both { ... A { k: alike } } }", "A.k")
        self.assert_conflict("{ a(1) { to { k: mine } } a(1) { to { k: alike } } }", "A.k")

    def test_selections_below_other_fields_do_not_meet(self):
        self.assert_form("{ a(1) { k: mine } a(2) { k: alike } }", {"Root": {
            "a1": entry("a", {"A": {"k": entry("mine")}}, 1), "a2": entry("a", {"A": {"k": entry("alike")}}, 2),
        }})

    def test_a_conflict_that_no_object_meets(self):
        # Below to of A stand objects of A only, where the fragments on B do not apply.
        self.assert_form("{ both { to { ... A { k: mine } } ... B { to { ... B { k: own } } } } }", {
            "Root": {"both": entry("both", {
                "A": {"to": entry("to", {"A": {"k": entry("mine")}})},
                "B": {"to": entry("to", {"Root": {}, "B": {"k": entry("own")}})},
            })},
        })
        self.assert_conflict("{ both { to { ... B { k: alike } } ... B { to { ... B { k: own } } } } }", "B.k")

    def test_first_key_of_a_type(self):
        self.assert_conflict("{ l: a(1) { } l: a(2) { } k: a(1) { } k: a(2) { } }", "Root.k")
        self.assert_conflict("{ b: a(1) { } b: a(2) { } a9: a(10) { } a9: a(11) { } }", "Root.a9")

    def test_keys_are_compared_character_by_character(self):
        self.assert_conflict("{ a2: a(3) { } a2: a(4) { } a10: a(3) { } a10: a(4) { } }", "Root.a10")
        self.assert_conflict("{ k1: a(3) { } k1: a(4) { } k: a(3) { } k: a(4) { } }", "Root.k")

    def test_own_fields_ahead_of_those_below(self):
        self.assert_conflict("{ a(1) { k: mine k: alike } l: a(1) { } l: a(2) { } }", "Root.l")
        self.assert_conflict("{ a(1) { to { z: mine z: alike } y: mine y: alike } }", "A.y")

    def test_below_by_key(self):
        self.assert_conflict("{ l: a(1) { x: mine x: alike } k: a(2) { y: mine y: alike } }", "A.y")
        self.assert_conflict("{ l: a(1) { x: mine x: alike } k: a(2) { to { y: mine y: alike } } }", "A.y")

    def test_a_type_and_what_is_below_it_ahead_of_the_next_type(self):
        two = "... B { k: own k: alike } ... A { k: mine k: alike }"
        self.assert_conflict(f"{{ both {{ {two} }} }}", "A.k")
        self.assert_conflict("{ both { ... B { k: own k: alike } ... A { to { l: mine l: alike } } } }", "A.l")
        self.assert_conflict("{ both { ... B { k: own k: alike } ... A { to { to { l: mine l: alike } } } } }", "A.l")

    def test_behind_all_other_faults(self):
        self.assert_fault("{ k: a(1) { } k: a(2) { } nope }", "unknown field", "Root.nope")
        self.assert_fault("{ k: a(1) { } k: a(2) { nope } }", "unknown field", "A.nope")
        self.assert_fault("{ both { k: alike ... B { k: own } } ... X { } }", "unknown type", "X")
        self.assert_fault("{ k: a(1) { } k: a(2) }", "selection required", "Root.a")


class TestMerging(FormsCase):
    def test_told_twice(self):
        self.assert_same("{ both { alike } }", "{ both { alike alike } }", "{ both { alike } both { alike } }",
                         "{ both { } both { alike } both { } }")

    def test_several_places(self):
        whole = "{ a(1) { alike mine to { alike mine } } }"
        self.assert_same(
            whole,
            "{ a(1) { to { mine } mine } a(1) { to { alike } alike } }",
            "{ a1: a(1) { to { mine alike } } ... Root { a(1) { mine } } a(1) { ... A { alike } } }",
            "{ ... Root { a(1) { ... A { ... A { to { ... A { mine } } } alike } } } "
            "... Root { ... Root { a(1) { to { alike } mine } } } }",
        )

    def test_fragments_on_some_types(self):
        self.assert_same(
            "{ both { alike ... A { mine } } }",
            "{ both { ... A { alike mine } ... B { alike } } }",
            "{ both { ... B { alike } ... A { mine } } both { ... A { alike } } }",
        )

    def test_a_field_of_both_and_one_of_a_fragment(self):
        self.assert_form("{ both { to { ... A { mine } } ... A { to { alike } } } }", {"Root": {"both": entry("both", {
            "A": {"to": entry("to", {"A": {"alike": entry("alike"), "mine": entry("mine")}})},
            "B": {"to": entry("to", {"Root": {}, "B": {}})},
        })}})

    def test_entries_for_other_types_do_not_apply(self):
        self.assert_form("{ both { to { ... A { mine } ... B { own } ... Root { a(1) { } } } } }", {
            "Root": {"both": entry("both", {
                "A": {"to": entry("to", {"A": {"mine": entry("mine")}})},
                "B": {"to": entry("to", {"Root": {"a1": entry("a", {"A": {}}, 1)}, "B": {"own": entry("own")}})},
            })},
        })

    def test_fragments_without_entries_tell_nothing(self):
        self.assert_same("{ }", "{ ... Root { } }", "{ ... Root { } ... Root { ... Root { } } }")


class TestNormalForms(FormsCase):
    def test_nothing(self):
        self.assert_form("{ }", {"Root": {}})

    def test_keys(self):
        self.assert_form("{ k: a(7) { x: half(1) half(2) } a(8) { mine } }", {"Root": {
            "a8": entry("a", {"A": {"mine": entry("mine")}}, 8),
            "k": entry("a", {"A": {"half2": entry("half", None, 2), "x": entry("half", None, 1)}}, 7),
        }})

    def test_a_written_key_that_is_the_field_key(self):
        self.assert_same("{ a(7) { } }", "{ a7: a(7) { } }", "{ a7: a(7) { } a(7) { } }")
        self.assert_same("{ both { } }", "{ both: both { } }")

    def test_a_written_key_that_is_another_field_key(self):
        self.assert_form("{ a8: a(7) { } both: a(9) { } }", {"Root": {
            "a8": entry("a", {"A": {}}, 7), "both": entry("a", {"A": {}}, 9),
        }})

    def test_keys_ascending(self):
        numbers = (10, 9, 1, 99, 0, 11)
        text = " ".join(f"a({number}) {{ }}" for number in numbers)
        keys = ["a", "a0", "a1", "a10", "a11", "a9", "a99", "aa"]
        form = normal_form(Schema(MIXED), f"{{ aa: a(3) {{ }} {text} a: a(3) {{ }} }}")
        self.assertEqual(list(form["Root"]), keys)

    def test_types_in_the_order_of_the_schema(self):
        form = normal_form(Schema(MIXED), "{ both { ... B { } ... A { } } all { ... B { own } ... Root { } } }")
        self.assertEqual(list(form["Root"]["both"][1]), ["A", "B"])
        self.assertEqual(list(form["Root"]["all"][1]), ["Root", "A", "B"])

    def test_pairs_are_tuples(self):
        told = normal_form(Schema(MIXED), "{ a(7) { mine } }")["Root"]["a7"]
        self.assertIs(type(told), tuple)
        self.assertIs(type(told[0]), tuple)
        self.assertEqual(told[0], ("a", 7))
        self.assertEqual(told[1]["A"]["mine"], (("mine", None), None))

    def test_deep_form(self):
        deepest = {"A": {"mine": entry("mine")}}
        to = {"A": {"to": entry("to", {"A": {"to": entry("to", deepest)}})}}
        self.assert_form("{ a(1) { to { to { mine } } } }", {"Root": {"a1": entry("a", to, 1)}})

    def test_the_length_is_not_looked_at(self):
        text = "{" + " both { alike }" * 1000 + "}"
        both = entry("both", {"A": {"alike": entry("alike")}, "B": {"alike": entry("alike")}})
        self.assertEqual(normal_form(Schema(MIXED), text), {"Root": {"both": both}})

    def test_examples(self):
        schema = example_schema()
        age, likes = entry("age"), entry("likes")
        feed = entry("feed", {"User": {"age": age}, "Post": {"likes": likes}})
        text = "{ me: user(7) { age } feed { ... Post { likes } ... User { age } } }"
        form = {"Query": {"feed": feed, "me": entry("user", {"User": {"age": age}}, 7)}}
        self.assertEqual(normal_form(schema, text), form)
        self.assertEqual(orders(normal_form(schema, text)), orders(form))


def paths_in(schema, entries, place, path=()):
    """The pairs (path, field) of all entries, for each type of a place; a path ends in a type and a key."""
    found = []
    for told in entries:
        if told[0] == "fragment":
            found += paths_in(schema, told[2], [name for name in place if name == told[1]], path)
        else:
            _, key, name, number, selection = told
            for type_name in place:
                own = path + ((type_name, key or field_key((name, number))),)
                found.append((own, (name, number)))
                found += paths_in(schema, selection or (), schema.targets_of(type_name, name), own)
    return found


def paths_of(form, path=()):
    found = []
    for type_name, row in form.items():
        for key, (field, below) in row.items():
            own = path + ((type_name, key),)
            found.append((own, field))
            found += paths_of(below or {}, own)
    return found


def rank(schema, path):
    """The order of conflicts: by type, those at a key of the type itself first, then by key."""
    return [(schema.names.index(name), at < len(path) - 1, key) for at, (name, key) in enumerate(path)]


class TestManyQueries(unittest.TestCase):
    """Normal forms tell just the paths of keys, of objects of these types, that the entries tell."""

    def test_many_queries(self):
        numbers = Numbers(1)
        outcomes = [0, 0]
        for schema in (example_schema(), sides_schema(), wide_schema(), Schema(MIXED)):
            for _ in range(300):
                outcomes[self.assert_paths(schema, any_query(schema, numbers))] += 1
        self.assertGreater(min(outcomes), 100)

    def assert_paths(self, schema, text):
        told = paths_in(schema, read_query(text), (schema.root,))
        last = dict(told)
        unlike = [path for path, field in told if field != last[path]]
        if unlike:
            first = min(unlike, key=lambda path: rank(schema, path))
            with self.assertRaises(CheckFault, msg=text) as caught:
                normal_form(schema, text)
            self.assertEqual(caught.exception.reason, "conflicting fields")
            self.assertEqual(caught.exception.name, ".".join(first[-1]), text)
            return 1
        form = normal_form(schema, text)
        self.assertEqual(set(paths_of(form)), set(told), text)
        self.assert_orders(schema, (schema.root,), form)
        return 0

    def assert_orders(self, schema, place, form):
        self.assertEqual(tuple(form), place)
        for type_name, row in form.items():
            self.assertEqual(list(row), sorted(row))
            for field, below in row.values():
                if schema.field_of(type_name, field[0])[2] == "int":
                    self.assertIsNone(below)
                else:
                    self.assert_orders(schema, schema.targets_of(type_name, field[0]), below)


class TestWhatIsNew(unittest.TestCase):
    def test_every_dict_is_new(self):
        schema, text = sides_schema(), "{ any { ... B { near { } far { } } ... C { far { } next { same(1) } } } }"
        first, second = normal_form(schema, text), normal_form(schema, text)
        self.assertEqual(first, second)
        told = [id(found) for found in dicts_in(first) + dicts_in(second)]
        self.assertEqual(len(told), len(set(told)))

    def test_a_changed_form_changes_no_other(self):
        schema = example_schema()
        form = normal_form(schema, "{ feed { } }")
        form["Query"]["feed"][1]["User"]["age"] = entry("age")
        self.assertEqual(normal_form(schema, "{ feed { } }"), {"Query": {"feed": entry("feed", {"User": {}, "Post": {}})}})


if __name__ == "__main__":
    unittest.main()
