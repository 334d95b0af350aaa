"""Points 2, 4 and 5: schemas, places and field keys."""

import copy
import unittest

from fieldquery.errors import BadSchema, FieldError
from fieldquery.schemas import Schema, field_key
from samples import EXAMPLE, SIDES, example_schema, one_type, sides_schema

LETTERS = "ABCDEFGH"


def types_of(many):
    """A tuple of this many types without fields."""
    return tuple((letter, ()) for letter in LETTERS[:many])


def int_fields(many):
    return tuple((letter.lower(), False, "int", ()) for letter in LETTERS[:many])


class TestSchemasThatAre(unittest.TestCase):
    def assert_taken(self, types):
        schema = Schema(types)
        self.assertIs(schema.types, types)

    def test_number_of_types(self):
        for many in range(1, 6):
            with self.subTest(many):
                self.assert_taken(types_of(many))

    def test_number_of_fields(self):
        for many in range(7):
            with self.subTest(many):
                self.assert_taken((("T", int_fields(many)),))

    def test_every_type_full(self):
        self.assert_taken(tuple((letter, int_fields(6)) for letter in LETTERS[:5]))

    def test_kinds_with_and_without_an_argument(self):
        for has_argument in (False, True):
            for kind, targets in (("int", ()), ("one", ("T",)), ("many", ("T",))):
                with self.subTest((kind, has_argument)):
                    self.assert_taken(one_type(("f", has_argument, kind, targets)))

    def test_names_of_types(self):
        for name in ("A", "Z", "Aa", "Zz", "AZ", "Abcdefgh", "ABCDEFGH", "AbCdEfGh"):
            with self.subTest(name):
                self.assert_taken(((name, ()),))

    def test_names_that_differ_in_case_only(self):
        self.assert_taken((("AB", ()), ("Ab", ())))

    def test_names_of_fields(self):
        for name in ("a", "z", "abcdefgh", "stuvwxyz"):
            with self.subTest(name):
                self.assert_taken(one_type((name, False, "int", ())))

    def test_two_types_with_fields_of_the_same_names(self):
        self.assert_taken((("A", int_fields(6)), ("B", int_fields(6))))

    def test_targets_in_any_order(self):
        for targets in (("T",), ("A",), ("T", "A"), ("A", "T"), ("B", "A", "T")):
            with self.subTest(targets):
                field = ("f", False, "many", targets)
                self.assert_taken((("T", (field,)), ("A", (field,)), ("B", ())))

    def test_examples(self):
        self.assert_taken(EXAMPLE)
        self.assert_taken(SIDES)


class TestNoSchemas(unittest.TestCase):
    def assert_bad(self, *cases):
        for types in cases:
            with self.subTest(repr(types)):
                with self.assertRaises(BadSchema) as caught:
                    Schema(types)
                self.assertIsInstance(caught.exception, FieldError)
                self.assertIsInstance(caught.exception, ValueError)

    def assert_bad_field(self, *definitions):
        """Neither alone nor behind another field nor in the second type."""
        good = ("good", False, "int", ())
        for definition in definitions:
            self.assert_bad(
                one_type(definition),
                one_type(good, definition),
                (("A", (good,)), ("T", (definition,))),
            )

    def assert_bad_targets(self, kind, *all_targets):
        for targets in all_targets:
            self.assert_bad_field(("f", False, kind, targets), ("f", True, kind, targets))

    def test_number_of_types(self):
        self.assert_bad((), types_of(6), types_of(7))

    def test_no_tuple_of_types(self):
        self.assert_bad(None, 0, 1, True, "", "T", b"T", [], {}, {"T": ()}, list(EXAMPLE), {("T", ())})

    def test_types_that_are_no_pairs(self):
        self.assert_bad(
            ((),), (("T",),), (("T", (), ()),), (["T", ()],), ("T",), ("Ta",), (None,), (1,), ({"T": (), "A": ()},),
            ("T", ()), (("T", ()), "A"), (("T", ()), None), (("T", ()), ("A",)),
        )

    def test_names_of_types(self):
        names = (
            "", "a", "user", "1", "_", " ", "A1", "A_", "A ", " A", "A\n", "A-", "1A", "_A", "aB", "Abcdefghi",
            "ABCDEFGHI", "\u00c4", "A\u00e4", "A\u00c4", "\u0391", "\uff21", "A.b", "A" * 400,
        )
        self.assert_bad(*[((name, ()),) for name in names])
        self.assert_bad(*[(("T", ()), (name, ())) for name in names])

    def test_names_of_types_that_are_no_texts(self):
        self.assert_bad(*[((name, ()),) for name in (None, 0, 1, True, b"T", ("T",), ["T"], {}, {"T"})])

    def test_types_told_twice(self):
        self.assert_bad((("A", ()), ("A", ())))
        self.assert_bad((("A", ()), ("B", ()), ("A", int_fields(1))))

    def test_number_of_fields(self):
        self.assert_bad((("T", int_fields(7)),), (("T", int_fields(8)),), (("A", ()), ("T", int_fields(7))))

    def test_fields_that_are_no_tuple(self):
        for fields in (None, 0, "", "f", [], list(int_fields(1)), {}, {"f": ()}):
            self.assert_bad((("T", fields),))

    def test_definitions_that_are_no_tuples_of_four(self):
        self.assert_bad_field(
            (), ("f",), ("f", False), ("f", False, "int"), ("f", False, "int", (), ()), ["f", False, "int", ()],
            "f", "four", None, 4, {"f": 1, "g": 2, "h": 3, "i": 4},
        )

    def test_names_of_fields(self):
        names = (
            "", "A", "aB", "Ab", "a1", "1", "_", "a_", "a ", " a", "a\n", "a-b", "abcdefghi", "\u00e4", "a\u00df",
            "\u0430", "\uff41", None, 0, False, b"a", ("a",), ["a"], {},
        )
        self.assert_bad_field(*[(name, False, "int", ()) for name in names])

    def test_fields_told_twice(self):
        self.assert_bad(one_type(("f", False, "int", ()), ("f", False, "int", ())))
        self.assert_bad(one_type(("f", False, "int", ()), ("g", True, "int", ()), ("f", True, "one", ("T",))))
        twice = (("f", False, "int", ()), ("f", True, "int", ()))
        self.assert_bad((("A", int_fields(2)), ("T", twice)))

    def test_has_argument_is_neither_true_nor_false(self):
        for has_argument in (0, 1, 2, None, "", "True", "False", (), [], {}):
            self.assert_bad_field(("f", has_argument, "int", ()), ("f", has_argument, "one", ("T",)))

    def test_unknown_kinds(self):
        kinds = ("", "Int", "INT", "in", "ints", "ones", "man", "list", "str", "int ", "oneint", None, 0, int, b"int")
        for kind in kinds + (("int",), ["int"], {}, True):
            self.assert_bad_field(("f", False, kind, ()), ("f", False, kind, ("T",)))

    def test_targets_for_int(self):
        self.assert_bad_targets("int", ("T",), ("T", "T"), ("X",), (0,), None, [], "", {})

    def test_no_targets_for_one_and_many(self):
        for kind in ("one", "many"):
            self.assert_bad_targets(kind, ())

    def test_unknown_targets(self):
        for kind in ("one", "many"):
            self.assert_bad_targets(
                kind, ("X",), ("T", "X"), ("X", "T"), ("t",), ("TT",), ("",), (None,), (0,), (("T",),), (["T"],), ({},),
            )

    def test_targets_told_twice(self):
        for kind in ("one", "many"):
            self.assert_bad_targets(kind, ("T", "T"))
            field = ("f", False, kind, ("A", "T", "A"))
            self.assert_bad((("T", (field,)), ("A", ())), (("A", ()), ("T", (field,))))

    def test_targets_that_are_no_tuple(self):
        for kind in ("one", "many"):
            self.assert_bad_targets(kind, None, "T", ["T"], {"T": 1}, {"T"}, 0, True, b"T")

    def test_last_type_is_looked_at(self):
        fields = (("f", False, "one", ("X",)),)
        self.assert_bad(types_of(4) + (("T", fields),))

    def test_last_field_is_looked_at(self):
        self.assert_bad((("T", int_fields(5) + (("F", False, "int", ()),)),))


class TestSchema(unittest.TestCase):
    def test_types_names_and_root(self):
        schema = example_schema()
        self.assertEqual(schema.types, EXAMPLE)
        self.assertEqual(schema.names, ("Query", "User", "Post"))
        self.assertEqual(schema.root, "Query")

    def test_root_is_the_first_type(self):
        schema = Schema((("Zz", ()), ("A", ())))
        self.assertEqual((schema.root, schema.names), ("Zz", ("Zz", "A")))

    def test_one_type(self):
        schema = Schema((("T", ()),))
        self.assertEqual((schema.root, schema.names), ("T", ("T",)))

    def test_field_of_each_field(self):
        for types in (EXAMPLE, SIDES):
            schema = Schema(types)
            for name, fields in types:
                for definition in fields:
                    with self.subTest((name, definition)):
                        self.assertEqual(schema.field_of(name, definition[0]), definition)

    def test_field_of_tells_the_type_apart(self):
        schema = sides_schema()
        self.assertEqual(schema.field_of("B", "near"), ("near", False, "one", ("A",)))
        self.assertEqual(schema.field_of("C", "near"), ("near", False, "many", ("A",)))

    def test_field_of_what_there_is_not(self):
        schema = example_schema()
        for type_name, name in (
            ("User", "likes"), ("User", "user"), ("User", ""), ("User", "User"), ("User", "agee"),
            ("Nope", "age"), ("user", "age"), ("", "age"), ("age", "User"),
        ):
            with self.subTest((type_name, name)):
                self.assertIsNone(schema.field_of(type_name, name))

    def test_field_of_a_type_without_fields(self):
        self.assertIsNone(Schema((("T", ()),)).field_of("T", "f"))

    def test_place_of(self):
        schema = Schema(types_of(5))
        cases = (
            ((), ()),
            (("C",), ("C",)),
            (("C", "A"), ("A", "C")),
            (("E", "D", "C", "B", "A"), ("A", "B", "C", "D", "E")),
            (("B", "B"), ("B",)),
            (("D", "B", "D", "A", "B"), ("A", "B", "D")),
        )
        for type_names, place in cases:
            with self.subTest(type_names):
                self.assertEqual(schema.place_of(type_names), place)
                self.assertEqual(schema.place_of(list(type_names)), place)
                self.assertEqual(schema.place_of(dict.fromkeys(type_names)), place)

    def test_place_of_follows_the_schema_and_not_the_alphabet(self):
        schema = example_schema()
        self.assertEqual(schema.place_of(("Post", "User", "Query")), ("Query", "User", "Post"))

    def test_targets_of(self):
        schema = example_schema()
        self.assertEqual(schema.targets_of("Query", "feed"), ("User", "Post"))
        self.assertEqual(schema.targets_of("Query", "user"), ("User",))
        self.assertEqual(schema.targets_of("User", "posts"), ("Post",))
        self.assertEqual(sides_schema().targets_of("A", "any"), ("A", "B", "C"))
        self.assertEqual(sides_schema().targets_of("C", "far"), ("A", "B"))

    def test_targets_of_int(self):
        self.assertEqual(example_schema().targets_of("User", "age"), ())
        self.assertEqual(sides_schema().targets_of("B", "same"), ())

    def test_targets_of_a_type_itself(self):
        schema = Schema(one_type(("f", False, "many", ("T",))))
        self.assertEqual(schema.targets_of("T", "f"), ("T",))

    def test_places_are_tuples(self):
        schema = example_schema()
        self.assertIs(type(schema.place_of(["User"])), tuple)
        self.assertIs(type(schema.targets_of("Query", "feed")), tuple)
        self.assertIs(type(schema.names), tuple)

    def test_schemas_do_not_share(self):
        first, second = example_schema(), sides_schema()
        self.assertEqual((first.root, second.root), ("Query", "A"))
        self.assertIsNone(first.field_of("B", "near"))
        self.assertIsNone(second.field_of("User", "age"))


class TestNothingIsModified(unittest.TestCase):
    def test_types_that_are_taken(self):
        types = copy.deepcopy(EXAMPLE)
        schema = Schema(types)
        schema.place_of(schema.targets_of("Query", "feed"))
        self.assertEqual(types, EXAMPLE)
        self.assertEqual(schema.types, EXAMPLE)

    def test_types_that_are_not_taken(self):
        types = [["T", [["f", False, "one", ["T", "T"]]]]]
        kept = copy.deepcopy(types)
        self.assertRaises(BadSchema, Schema, types)
        self.assertEqual(types, kept)

    def test_names_of_a_place(self):
        type_names = ["Post", "User", "Post"]
        example_schema().place_of(type_names)
        self.assertEqual(type_names, ["Post", "User", "Post"])


class TestFieldKey(unittest.TestCase):
    def test_without_a_number(self):
        self.assertEqual(field_key(("feed", None)), "feed")
        self.assertEqual(field_key(("f", None)), "f")

    def test_with_a_number(self):
        for number, key in ((0, "user0"), (7, "user7"), (10, "user10"), (99, "user99")):
            with self.subTest(number):
                self.assertEqual(field_key(("user", number)), key)

    def test_longest(self):
        self.assertEqual(field_key(("abcdefgh", 42)), "abcdefgh42")


if __name__ == "__main__":
    unittest.main()
