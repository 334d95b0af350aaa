"""Points 2, 12, 13 and 14: field forms, their texts, and how many objects a response may have."""

import copy
import unittest

from fieldquery import fieldforms
from fieldquery.errors import CheckFault
from fieldquery.fieldforms import combine, common, common_of, contains, field_form, max_objects
from fieldquery.fieldforms import remainder, remainder_of, union_of
from fieldquery.forms import normal_form
from fieldquery.printing import form_text
from fieldquery.queries import Query
from fieldquery.schemas import Schema, field_key
from samples import Numbers, any_query, dicts_in, example_schema, sides_schema, wide_schema


def entry(name, below=None, number=None):
    return ((name, number), below)


def form_of(schema, text):
    return field_form(Query(schema, text))


def orders(form):
    """The orders of types and keys throughout a form."""
    return [(name, [(key, below and orders(below)) for key, (_, below) in row.items()]) for name, row in form.items()]


class FieldFormsCase(unittest.TestCase):
    SCHEMA = staticmethod(example_schema)

    def assert_form(self, found, form):
        self.assertEqual(found, form)
        self.assertEqual(orders(found), orders(form))

    def queries(self, *texts):
        schema = self.SCHEMA()
        return [Query(schema, text) for text in texts]

    def forms(self, *texts):
        return [field_form(query) for query in self.queries(*texts)]


class TestFieldForm(FieldFormsCase):
    def test_nothing(self):
        self.assert_form(*self.forms("{ }"), {"Query": {}})

    def test_without_written_keys(self):
        for text in ("{ user(7) { age } feed { } }", "{ user7: user(7) { age: age } feed { } }"):
            query, = self.queries(text)
            self.assert_form(field_form(query), query.form)

    def test_written_keys_are_field_keys(self):
        self.assert_form(*self.forms("{ a: user(7) { old: age } }"),
                         {"Query": {"user7": entry("user", {"User": {"age": entry("age")}}, 7)}})

    def test_keys_ascending(self):
        found, = self.forms("{ a: user(9) { } b: user(10) { } c: feed { } z: user(1) { } }")
        self.assertEqual(list(found["Query"]), ["feed", "user1", "user10", "user9"])

    def test_a_key_that_is_another_field_key(self):
        self.assert_form(*self.forms("{ user2: user(1) { } user1: user(2) { age } }"), {"Query": {
            "user1": entry("user", {"User": {}}, 1), "user2": entry("user", {"User": {"age": entry("age")}}, 2),
        }})

    def test_two_keys_with_the_same_field(self):
        told = entry("user", {"User": {"age": entry("age"), "posts": entry("posts", {"Post": {}})}}, 7)
        self.assert_form(*self.forms("{ b: user(7) { age } a: user(7) { posts { } } }"), {"Query": {"user7": told}})
        self.assert_form(*self.forms("{ user(7) { x: age y: age } z: user(7) { posts { } age } }"),
                         {"Query": {"user7": told}})

    def test_two_keys_below_two_keys(self):
        found, = self.forms("{ a: feed { ... User { p: posts { likes } } ... Post { likes } } "
                            "b: feed { ... User { q: posts { author { } } r: posts { } } } }")
        post = {"author": entry("author", {"User": {}}), "likes": entry("likes")}
        self.assert_form(found, {"Query": {"feed": entry("feed", {
            "User": {"posts": entry("posts", {"Post": post})}, "Post": {"likes": entry("likes")},
        })}})

    def test_types_in_order(self):
        schema = sides_schema()
        found = form_of(schema, "{ x: any { ... C { k: mine } ... B { k: own } } y: any { ... A { pair { } } } }")
        self.assert_form(found, {"A": {"any": entry("any", {
            "A": {"pair": entry("pair", {"B": {}, "C": {}})}, "B": {"own": entry("own")}, "C": {"mine": entry("mine")},
        })}})


class TestUnion(FieldFormsCase):
    def assert_union(self, texts, text):
        schema = self.SCHEMA()
        with self.subTest(texts):
            found = union_of(schema, self.forms(*texts))
            self.assert_form(found, form_of(schema, text))
            self.assertEqual(combine(schema, self.queries(*texts)), form_text(schema, found))

    def test_none(self):
        self.assert_form(union_of(example_schema(), []), {"Query": {}})
        self.assert_form(union_of(sides_schema(), []), {"A": {}})
        self.assertEqual(combine(example_schema(), []), "{ }")

    def test_one(self):
        for text in ("{ }", "{ feed { } }", "{ user(1) { age } feed { ... Post { author { } likes } } }"):
            self.assert_union([text], text)

    def test_several(self):
        self.assert_union(["{ user(1) { } }", "{ feed { } }"], "{ user(1) { } feed { } }")
        self.assert_union(["{ }", "{ feed { } }", "{ }"], "{ feed { } }")
        self.assert_union(["{ user(1) { age } }", "{ user(1) { posts { } } }", "{ user(2) { } }"],
                          "{ user(1) { age posts { } } user(2) { } }")
        self.assert_union(["{ feed { ... User { age } } }", "{ feed { ... Post { likes } } }", "{ feed { } }"],
                          "{ feed { ... User { age } ... Post { likes } } }")

    def test_the_same_twice(self):
        self.assert_union(["{ feed { ... User { age } } }"] * 3, "{ feed { ... User { age } } }")

    def test_deep(self):
        self.assert_union(["{ user(1) { posts { author { age } } } }", "{ user(1) { posts { author { old: age } } } }",
                           "{ user(1) { posts { likes } } }", "{ user(1) { posts { } age } }"],
                          "{ user(1) { age posts { author { age } likes } } }")

    def test_text_without_keys(self):
        self.assertEqual(combine(example_schema(), self.queries("{ a: user(1) { x: age } }", "{ b: user(1) { } }")),
                         "{ user(1) { age } }")

    def test_text_with_shared_entries(self):
        schema = sides_schema()
        told = [Query(schema, "{ pair { ... B { x: same(1) own } } }"), Query(schema, "{ pair { ... C { same(1) } } }")]
        self.assertEqual(combine(schema, told), "{ pair { same(1) ... B { own } } }")

    def test_a_tuple_of_queries(self):
        told = tuple(self.queries("{ user(1) { } }", "{ feed { } }"))
        self.assertEqual(combine(example_schema(), told), "{ feed { } user(1) { } }")


class TestCommonPart(FieldFormsCase):
    def assert_common(self, first, second, text):
        with self.subTest((first, second)):
            for one, other in ((first, second), (second, first)):
                self.assert_form(common_of(*self.forms(one, other)), form_of(self.SCHEMA(), text))
                self.assertEqual(common(*self.queries(one, other)), text)

    def test_nothing(self):
        self.assert_common("{ }", "{ }", "{ }")
        self.assert_common("{ feed { } }", "{ }", "{ }")
        self.assert_common("{ feed { } }", "{ user(1) { } }", "{ }")
        self.assert_common("{ user(2) { } }", "{ user(1) { } }", "{ }")

    def test_all(self):
        text = "{ feed { ... User { age } ... Post { likes } } user(1) { posts { } } }"
        self.assert_common(text, text, text)

    def test_some(self):
        self.assert_common("{ feed { } user(1) { } }", "{ user(1) { } user(2) { } }", "{ user(1) { } }")
        self.assert_common("{ user(1) { age } }", "{ user(1) { posts { } } }", "{ user(1) { } }")
        self.assert_common("{ user(1) { posts { author { age } likes } } }",
                           "{ user(1) { posts { author { } likes } age } }",
                           "{ user(1) { posts { author { } likes } } }")

    def test_types(self):
        self.assert_common("{ feed { ... User { age } ... Post { likes } } }",
                           "{ feed { ... User { posts { } } ... Post { likes author { } } } }",
                           "{ feed { ... Post { likes } } }")
        self.assert_common("{ feed { ... User { age } } }", "{ feed { ... Post { likes } } }", "{ feed { } }")

    def test_keys_do_not_matter(self):
        self.assert_common("{ a: user(1) { x: age } }", "{ b: user(1) { y: age posts { } } }", "{ user(1) { age } }")
        self.assert_common("{ k: user(1) { } }", "{ k: user(2) { } }", "{ }")

    def test_two_keys_with_the_same_field(self):
        self.assert_common("{ a: user(1) { age } b: user(1) { posts { } } }", "{ user(1) { age posts { likes } } }",
                           "{ user(1) { age posts { } } }")


class TestContainment(FieldFormsCase):
    def assert_contains(self, first, second, both_ways=False):
        with self.subTest((first, second)):
            self.assertIs(contains(*self.forms(first, second)), True)
            self.assertIs(contains(*self.forms(second, first)), both_ways)

    def assert_apart(self, first, second):
        with self.subTest((first, second)):
            self.assertIs(contains(*self.forms(first, second)), False)
            self.assertIs(contains(*self.forms(second, first)), False)

    def test_itself(self):
        for text in ("{ }", "{ feed { } }", "{ user(1) { posts { author { age } } } }"):
            self.assert_contains(text, text, both_ways=True)

    def test_keys_do_not_matter(self):
        self.assert_contains("{ a: user(1) { age } b: user(1) { posts { } } }", "{ user(1) { x: age posts { } } }",
                             both_ways=True)

    def test_more_fields(self):
        self.assert_contains("{ feed { } }", "{ }")
        self.assert_contains("{ feed { } user(1) { } }", "{ feed { } }")

    def test_more_below(self):
        self.assert_contains("{ feed { ... User { age } } }", "{ feed { } }")
        self.assert_contains("{ user(1) { posts { author { age } } } }", "{ user(1) { posts { author { } } } }")
        self.assert_contains("{ user(1) { posts { author { age } } } }", "{ user(1) { posts { } } }")

    def test_more_for_one_type(self):
        self.assert_contains("{ feed { ... User { age } ... Post { likes } } }", "{ feed { ... Post { likes } } }")

    def test_none_contains_the_other(self):
        self.assert_apart("{ feed { } }", "{ user(1) { } }")
        self.assert_apart("{ user(1) { } }", "{ user(2) { } }")
        self.assert_apart("{ feed { ... User { age } } }", "{ feed { ... Post { likes } } }")
        self.assert_apart("{ feed { } user(1) { age } }", "{ user(1) { posts { } } }")


class TestRemainder(FieldFormsCase):
    def assert_remainder(self, first, second, text):
        with self.subTest((first, second)):
            self.assert_form(remainder_of(*self.forms(first, second)), form_of(self.SCHEMA(), text))
            query, other = self.queries(first, second)
            self.assertEqual(remainder([other], query), text)

    def assert_nothing_remains(self, first, second):
        with self.subTest((first, second)):
            self.assertIsNone(remainder_of(*self.forms(first, second)))
            query, other = self.queries(first, second)
            self.assertIsNone(remainder([other], query))

    def test_nothing(self):
        self.assert_nothing_remains("{ }", "{ }")
        self.assert_nothing_remains("{ }", "{ feed { } }")
        self.assert_nothing_remains("{ feed { } }", "{ feed { ... User { age } } }")
        self.assert_nothing_remains("{ user(1) { posts { likes } } }", "{ user(1) { age posts { author { } likes } } }")
        self.assert_nothing_remains("{ a: user(1) { x: age } b: user(1) { } }", "{ c: user(1) { age } }")

    def test_everything(self):
        for text in ("{ feed { } }", "{ user(1) { } }", "{ feed { ... User { age } } user(1) { posts { likes } } }"):
            self.assert_remainder(text, "{ }", text)
        self.assert_remainder("{ user(1) { age } }", "{ user(2) { age } feed { } }", "{ user(1) { age } }")

    def test_some_fields(self):
        self.assert_remainder("{ feed { } user(1) { } user(2) { age } }", "{ user(1) { } }",
                              "{ feed { } user(2) { age } }")

    def test_some_below_a_field(self):
        self.assert_remainder("{ user(1) { age posts { } } }", "{ user(1) { age } }", "{ user(1) { posts { } } }")
        self.assert_remainder("{ user(1) { posts { author { age } likes } } }", "{ user(1) { posts { likes } } }",
                              "{ user(1) { posts { author { age } } } }")
        self.assert_remainder("{ user(1) { posts { author { age } likes } } }", "{ user(1) { posts { author { } } } }",
                              "{ user(1) { posts { author { age } likes } } }")

    def test_all_that_is_below_a_field_that_the_other_has_not(self):
        self.assert_remainder("{ user(1) { posts { author { age } likes } } }", "{ user(1) { age } }",
                              "{ user(1) { posts { author { age } likes } } }")

    def test_one_type_of_a_place(self):
        self.assert_remainder("{ feed { ... User { age } ... Post { likes } } }", "{ feed { ... User { age } } }",
                              "{ feed { ... Post { likes } } }")
        self.assert_form(remainder_of(*self.forms("{ feed { ... User { age } } }", "{ feed { } }")),
                         {"Query": {"feed": entry("feed", {"User": {"age": entry("age")}, "Post": {}})}})

    def test_fields_below_which_nothing_remains_are_left_out(self):
        self.assert_remainder("{ feed { ... User { age posts { likes } } } user(1) { age } }",
                              "{ feed { ... User { age } } user(1) { age } }",
                              "{ feed { ... User { posts { likes } } } }")

    def test_two_keys_with_the_same_field(self):
        self.assert_remainder("{ a: user(1) { x: age } b: user(1) { posts { } } }", "{ c: user(1) { y: age } }",
                              "{ user(1) { posts { } } }")

    def test_beyond_several_queries(self):
        query, *others = self.queries("{ user(1) { age posts { likes } } feed { } }", "{ user(1) { age } }",
                                      "{ user(1) { posts { } } }", "{ user(2) { age } }")
        self.assertEqual(remainder(others, query), "{ feed { } user(1) { posts { likes } } }")
        self.assertIsNone(remainder(others + [query], query))

    def test_beyond_no_queries(self):
        query, empty = self.queries("{ me: user(1) { age } }", "{ }")
        self.assertEqual(remainder([], query), "{ user(1) { age } }")
        self.assertIsNone(remainder([], empty))


def paths_of(form, path=()):
    """The paths of types and fields that a field form has."""
    found = set()
    for type_name, row in form.items():
        for field, below in row.values():
            own = path + ((type_name, field),)
            found |= {own} | paths_of(below or {}, own)
    return found


class TestManyForms(unittest.TestCase):
    """What field forms have is a set of paths; unions, common parts and remainders are told by these sets."""

    def test_many(self):
        for schema, seed in ((example_schema(), 3), (sides_schema(), 4), (wide_schema(), 5)):
            queries = self.some_queries(schema, Numbers(seed))
            for query in queries:
                self.assert_field_form(query)
            for first, second in zip(queries, queries[1:]):
                self.assert_pair(schema, first, second)
                self.assert_pair(schema, query_of_both(schema, first, second), second)

    def some_queries(self, schema, numbers):
        queries = []
        while len(queries) < 80:
            text = any_query(schema, numbers)
            try:
                queries += [Query(schema, text)] if len(text) <= 400 else []
            except CheckFault:
                pass
        return queries

    def assert_field_form(self, query):
        form = field_form(query)
        self.assertEqual(paths_of(form), paths_of(query.form))
        self.assert_is_form(query.schema, (query.schema.root,), form)

    def assert_pair(self, schema, first, second):
        one, other = field_form(first), field_form(second)
        has, has_other = paths_of(one), paths_of(other)
        union, part, rest = union_of(schema, [one, other]), common_of(one, other), remainder_of(one, other)
        self.assertEqual(paths_of(union), has | has_other)
        self.assertEqual(paths_of(part), has & has_other)
        beyond = has - has_other
        self.assertEqual(paths_of(rest or {}), {path[:length] for path in beyond for length in range(1, len(path) + 1)})
        self.assertEqual(rest is None, not beyond)
        self.assertIs(contains(one, other), has >= has_other)
        for form in (union, part) + (() if rest is None else (rest,)):
            self.assert_is_form(schema, (schema.root,), form)
            self.assertEqual(normal_form(schema, form_text(schema, form)), form)
        self.assertEqual(combine(schema, [first, second]), form_text(schema, union))
        self.assertEqual(common(first, second), form_text(schema, part))
        self.assertEqual(remainder([second], first), None if rest is None else form_text(schema, rest))

    def assert_is_form(self, schema, place, form):
        self.assertEqual(tuple(form), place)
        for type_name, row in form.items():
            self.assertEqual(list(row), sorted(row))
            for key, told in row.items():
                self.assertIs(type(told), tuple)
                field, below = told
                self.assertEqual(key, field_key(field))
                if schema.field_of(type_name, field[0])[2] == "int":
                    self.assertIsNone(below)
                else:
                    self.assert_is_form(schema, schema.targets_of(type_name, field[0]), below)


def query_of_both(schema, first, second):
    """A query with the form of both, whose text may be too long to be read."""
    query = Query(schema, "{}")
    query.form = union_of(schema, [field_form(first), field_form(second)])
    return query


class TestNothingIsModified(unittest.TestCase):
    TEXTS = (
        "{ x: any { ... B { near { any { } } far { ... A { pair { } } } } ... C { near { } } } pair { same(1) } }",
        "{ any { ... C { near { } } ... A { any { } } } y: pair { near { pair { } } same(1) } }",
    )

    def assert_new(self, arguments, work):
        """Work on the arguments returns new lists and dicts, and leaves the arguments as they are."""
        kept = copy.deepcopy(arguments)
        first, second = work(*arguments), work(*arguments)
        self.assertEqual(first, second)
        self.assertEqual(arguments, kept)
        self.assertEqual(repr(arguments), repr(kept))
        told = [id(found) for found in dicts_in(first) + dicts_in(second)]
        self.assertEqual(len(told), len(set(told)))
        self.assertFalse(set(told) & {id(found) for found in dicts_in(arguments)})

    def test_forms(self):
        schema = sides_schema()
        one, other = [form_of(schema, text) for text in self.TEXTS]
        for first, second in ((one, other), (other, one), (one, one), (one, {"A": {}})):
            self.assert_new((first, second), common_of)
            self.assert_new((first, second), remainder_of)
            self.assert_new((first, second), contains)
            self.assert_new(([first, second],), lambda forms: union_of(schema, forms))
        for forms in ([], [one], [one, one], [other, one, other]):
            self.assert_new((forms,), lambda told: union_of(schema, told))

    def test_forms_of_queries(self):
        schema = sides_schema()
        for text in self.TEXTS + ("{ }", "{ pair { } }", "{ a: pair { } b: pair { } }"):
            query = Query(schema, text)
            kept = repr(query.form)
            found = field_form(query)
            self.assertFalse({id(told) for told in dicts_in(found)} & {id(told) for told in dicts_in(query.form)})
            self.assertEqual(repr(query.form), kept)
            self.assertIsNot(field_form(query), found)

    def test_queries(self):
        schema = sides_schema()
        queries = [Query(schema, text) for text in self.TEXTS]
        kept = [(repr(query.form), query.text) for query in queries]
        told = list(queries)
        combine(schema, told)
        common(*told)
        remainder(told, queries[0])
        remainder(told[:1], queries[1])
        max_objects(queries[0], 3)
        self.assertEqual([(repr(query.form), query.text) for query in queries], kept)
        self.assertTrue(len(told) == 2 and told[0] is queries[0] and told[1] is queries[1])
        self.assertEqual(schema.types, sides_schema().types)

    def test_no_argument_has_a_default(self):
        self.assertIsNone(fieldforms.union_of.__defaults__)


class TestMaxObjects(unittest.TestCase):
    def assert_objects(self, schema, text, *numbers):
        """The numbers for lists with at most 0, 1, 2 elements, and so on."""
        query = Query(schema, text)
        with self.subTest(text):
            self.assertEqual([max_objects(query, length) for length in range(len(numbers))], list(numbers))

    def test_the_root_alone(self):
        self.assert_objects(example_schema(), "{ }", 1, 1, 1)

    def test_kind_int(self):
        types = (("T", (("i", True, "int", ()), ("o", False, "one", ("T",)))),)
        self.assert_objects(Schema(types), "{ i(1) i(2) k: i(3) }", 1, 1, 1)
        self.assert_objects(Schema(types), "{ i(1) o { i(1) } }", 2, 2, 2)

    def test_kind_one(self):
        self.assert_objects(example_schema(), "{ user(1) { age } }", 2, 2, 2)
        self.assert_objects(example_schema(), "{ user(1) { } user(2) { } k: user(2) { } }", 4, 4, 4)

    def test_kind_many(self):
        self.assert_objects(example_schema(), "{ feed { } }", 1, 2, 3, 4)
        self.assert_objects(example_schema(), "{ feed { } f: feed { } }", 1, 3, 5, 7)

    def test_keys_count_and_not_fields(self):
        self.assert_objects(example_schema(), "{ a: user(1) { } b: user(1) { posts { } } }", 3, 4, 5)

    def test_lists_within_lists(self):
        self.assert_objects(example_schema(), "{ feed { ... User { posts { author { } } } } }", 1, 4, 11, 22)
        self.assert_objects(example_schema(), "{ feed { ... User { posts { } } } }", 1, 3, 7, 13)

    def test_the_greatest_of_a_place(self):
        self.assert_objects(example_schema(), "{ feed { ... User { posts { } } ... Post { author { } } } }", 1, 3, 7, 13)
        types = (
            ("R", (("m", False, "many", ("A", "B")), ("o", False, "one", ("A", "B")))),
            ("A", (("o", False, "one", ("A",)), ("p", False, "one", ("A",)))),
            ("B", (("m", False, "many", ("A",)),)),
        )
        self.assert_objects(Schema(types), "{ o { ... A { o { } p { } } ... B { m { } } } }", 4, 4, 4, 5, 6)
        self.assert_objects(Schema(types), "{ m { ... A { o { } p { } } ... B { m { } } } }", 1, 4, 7, 13, 21)
        self.assert_objects(Schema(types), "{ o { ... B { m { } } } }", 2, 3, 4, 5)
        self.assert_objects(Schema(types), "{ o { ... A { o { } } } }", 3, 3, 3)

    def test_types_of_a_place_are_told_apart_below_each_key(self):
        schema = sides_schema()
        # The kinds of near and far are "one" for B and "many" for C.
        self.assert_objects(schema, "{ pair { near { } } }", 3, 3, 4, 5)
        self.assert_objects(schema, "{ pair { ... B { near { } far { } } ... C { near { } } } }", 4, 4, 4, 5)
        self.assert_objects(schema, "{ any { ... B { near { } } ... C { near { } } } }", 1, 3, 7, 13)

    def test_great_lengths(self):
        query = Query(example_schema(), "{ feed { ... User { posts { author { } } } } }")
        self.assertEqual(max_objects(query, 10), 1 + 10 * (1 + 10 * 2))
        self.assertEqual(max_objects(query, 10 ** 9), 1 + 10 ** 9 * (1 + 10 ** 9 * 2))

    def test_no_response_has_more(self):
        for schema, seed in ((example_schema(), 6), (sides_schema(), 7)):
            numbers = Numbers(seed)
            for _ in range(60):
                try:
                    query = Query(schema, any_query(schema, numbers, 2))
                except CheckFault:
                    continue
                for length in range(3):
                    found = most_by_all_choices(schema, schema.root, query.form, length)
                    self.assertEqual(max_objects(query, length), found)


def most_by_all_choices(schema, type_name, form, length):
    """The objects of the largest response, whose objects may be of each type of their place."""
    total = 1
    for field, below in form[type_name].values():
        _, _, kind, targets = schema.field_of(type_name, field[0])
        choices = [most_by_all_choices(schema, target, below, length) for target in targets]
        total += {"int": 0, "one": 1, "many": length}[kind] * max(choices, default=0)
    return total


if __name__ == "__main__":
    unittest.main()
