"""Points 2, 3, 5, 14 to 19: graphs, responses on them, and graphs that tell queries apart."""

import copy
import unittest

from fieldquery.errors import BadGraph, TooLarge
from fieldquery.fieldforms import contains, field_form, max_objects, union_of
from fieldquery.graphs import check_graph, difference, evaluate, undetermined
from fieldquery.queries import Query
from fieldquery.schemas import Schema
from samples import Hostile, HostileDict, HostileInteger, HostileText, HostileTuple, Numbers
from samples import any_graph, chains_of, dicts_in, example_schema, objects_of, plain_response, sides_schema
from samples import some_queries, strange_things, wide_schema

FULL = (
    ("Query", {"user7": 1, "feed": (2, 1, 2), "user0": None}),
    ("User", {"age": -999, "posts": (2,)}),
    ("Post", {"likes": 999, "author": 1}),
)


def root_with(key, value):
    """A graph of the example schema whose root has this value; node 1 is a user, node 2 a post."""
    return (("Query", {key: value}), ("User", {}), ("Post", {}))


def user_with(key, value):
    return (("Query", {}), ("User", {key: value}), ("Post", {}))


def post_with(key, value):
    return (("Query", {}), ("User", {}), ("Post", {key: value}))


class GraphsCase(unittest.TestCase):
    def setUp(self):
        self.schema = example_schema()
        self.nothing = Query(self.schema, "{}")

    def query(self, text):
        return Query(self.schema, text)

    def assert_graph(self, graph):
        self.assertIsNone(check_graph(self.schema, graph))
        self.assertEqual(evaluate(graph, self.nothing), {"Type": "Query"})

    def assert_bad(self, graph):
        self.assertRaises(BadGraph, check_graph, self.schema, graph)
        self.assertRaises(BadGraph, evaluate, graph, self.nothing)
        self.assertRaises(BadGraph, evaluate, graph, self.nothing, most=0)


class TestCheckGraph(GraphsCase):
    def test_graphs(self):
        for graph in (
            (("Query", {}),), FULL, (("Query", {}), ("Query", {}), ("User", {})), (("Query", {"user99": None}),),
        ):
            with self.subTest(graph):
                self.assert_graph(graph)

    def test_the_root(self):
        for graph in ((), (("User", {}),), (("Post", {}), ("Query", {})), (("User", {}), ("Query", {}))):
            with self.subTest(graph):
                self.assert_bad(graph)

    def test_types(self):
        for name in ("X", "", "query", "Query ", "user", None, 0, ("Query",), ["Query"], {"Query": 1}, b"Query"):
            with self.subTest(name):
                self.assert_bad(((name, {}),))
                self.assert_bad((("Query", {}), (name, {})))

    def test_field_keys(self):
        for graph in (
            root_with("user0", 1), root_with("user9", 1), root_with("user10", 1), root_with("user99", 1),
            root_with("feed", ()), user_with("age", 1), user_with("posts", ()), post_with("author", None),
        ):
            with self.subTest(graph):
                self.assert_graph(graph)

    def test_what_is_no_field_key_of_the_type(self):
        keys = (
            "user", "user07", "user00", "user100", "user010", "user-1", "user 7", "user7 ", " user7", "user7a", "user1.",
            "User7", "uSer7", "age", "posts", "feed0", "feed7", "feeds", "fee", "", "7", "user(7)", "Type", "{", "user7\n",
            "user\u0667", "user\u00b2", "user" + "1" * 5000, "9" * 5000,
        )
        for key in keys:
            for value in (1, None, ()):
                with self.subTest((key, value)):
                    self.assert_bad(root_with(key, value))
        for key in (7, None, True, ("user", 7), ("user7",), b"user7", 1.5, frozenset()):
            with self.subTest(key):
                self.assert_bad(root_with(key, None))

    def test_fields_of_other_types(self):
        for graph in (
            user_with("likes", 1), user_with("user7", 1), post_with("age", 1), post_with("posts", ()), user_with("age7", 1),
        ):
            with self.subTest(graph):
                self.assert_bad(graph)

    def test_kind_int(self):
        for value in (-999, -998, -1, 0, 1, 998, 999, None):
            with self.subTest(value):
                self.assert_graph(user_with("age", value))
        for value in (-1000, 1000, 10 ** 20, -(10 ** 5000), True, False, "1", "", 1.0, (), (1,), [], {}, b"1"):
            with self.subTest(str(value)[:9] if not isinstance(value, int) else value % 7):
                self.assert_bad(user_with("age", value))

    def test_kind_one(self):
        self.assert_graph(root_with("user7", 1))
        self.assert_graph(root_with("user7", None))
        for value in (0, 2, 3, 4, 100, -1, -2, -3, True, False, "1", "User", 1.0, (1,), (), [1], {}, 10 ** 5000):
            with self.subTest(str(value)[:9] if not isinstance(value, int) else value % 1000):
                self.assert_bad(root_with("user7", value))

    def test_kind_many(self):
        for value in ((), (1,), (2,), (1, 2, 1), (2, 2, 2)):
            with self.subTest(value):
                self.assert_graph(root_with("feed", value))
        for value in (
            None, 1, 0, True, "", "1", [], [1], {}, {1: 1}, (0,), (1, 0), (3,), (1, 3), (-1,), (-2,), (True,), (None,),
            ("1",), (1.0,), ((1,),), ([1],), (1, None), (1, 2, "2"), frozenset((1,)), range(1, 2),
        ):
            with self.subTest(value):
                self.assert_bad(root_with("feed", value))

    def test_targets_by_the_field_of_the_type(self):
        self.assert_bad(user_with("posts", (1,)))
        self.assert_bad(user_with("posts", (2, 0)))
        self.assert_bad(post_with("author", 2))
        self.assert_bad(post_with("author", 0))
        self.assert_graph(user_with("posts", (2,)))
        self.assert_graph(post_with("author", 1))

    def test_each_node_is_looked_at(self):
        bad = ("User", {"age": 1000})
        self.assert_bad((("Query", {}), bad, ("User", {})))
        self.assert_bad((("Query", {}), ("User", {}), bad))
        self.assert_bad((("Query", {"user7": 1}), ("User", {"age": 1, "posts": (0,)})))
        self.assert_bad((("Query", {"user7": None, "user8": 0}), ("User", {})))

    def test_nodes(self):
        for node in (
            (), ("Query",), ("Query", {}, {}), ("Query", {}, None), ["Query", {}], {"Query": {}}, "Query", "Qu", None, 0,
            ("Query", None), ("Query", ()), ("Query", []), ("Query", (("user7", None),)), ("Query", "age"), ("Query", 0),
            ({}, "Query"),
        ):
            with self.subTest(node):
                self.assert_bad((node,))
                self.assert_bad((("Query", {}), node))

    def test_what_is_no_tuple(self):
        for graph in (
            list(FULL), [("Query", {})], {0: ("Query", {})}, ("Query", {}), "Query", {"Query": {}}, iter(FULL), None, 7,
        ):
            with self.subTest(str(graph)):
                self.assert_bad(graph)

    def test_strange_things(self):
        for at, thing in enumerate(strange_things()):
            with self.subTest(at):
                self.assert_bad(thing)
                self.assert_bad((thing,))
                self.assert_bad((("Query", {}), thing))
                self.assert_bad(((thing, {}),))
                if type(thing) is not int and thing is not None:
                    self.assert_bad(root_with("user7", thing))
                    self.assert_bad(root_with("feed", (thing,)))

    def test_strange_values(self):
        for at, thing in enumerate(strange_things()):
            with self.subTest(at):
                if type(thing) is not dict or thing:
                    self.assert_bad((("Query", thing),))
                if thing is not None and type(thing) is not int:
                    self.assert_bad(user_with("age", thing))
                if type(thing) is not tuple or thing:
                    self.assert_bad(root_with("feed", thing))

    def test_hostile_objects(self):
        for at, graph in enumerate((
            HostileTuple(FULL), (HostileTuple(("Query", {})),), (("Query", HostileDict()),), ((HostileText("Query"), {}),),
            root_with(HostileText("user7"), 1), root_with("user7", HostileInteger(1)), root_with("user7", Hostile()),
            user_with("age", HostileInteger(1)), root_with("feed", HostileTuple((1,))), root_with(Hostile(), 1),
            root_with("feed", (HostileInteger(1),)), (("Query", {"user7": None, HostileText("user8"): None}),),
        )):
            with self.subTest(at):
                self.assert_bad(graph)

    def test_limits_are_those_of_evaluate(self):
        for many, graph in (
            (30, lambda many: (("Query", {}),) + (("User", {}),) * (many - 1)),
            (20, lambda many: (("Query", {f"user{number}": None for number in range(many)}),)),
            (20, lambda many: (("Query", {}), ("Query", {f"user{number}": 2 for number in range(many)}), ("User", {}))),
            (10, lambda many: root_with("feed", (1,) * many)),
            (10, lambda many: user_with("posts", (2,) * many)),
        ):
            with self.subTest(many):
                for length in (many - 1, many):
                    self.assert_graph(graph(length))
                for length in (many + 1, many + 2):
                    self.assertIsNone(check_graph(self.schema, graph(length)))
                    self.assertRaises(BadGraph, evaluate, graph(length), self.nothing)
                    self.assertRaises(BadGraph, evaluate, graph(length), self.nothing, most=0)

    def test_graphs_of_any_size(self):
        nodes = (("Query", {f"user{number}": 1 for number in range(100)}),) + (("User", {"posts": (20000,)}),) * 19999
        nodes += (("Post", {"author": 19999}),) + (("Query", {"feed": tuple(range(1, 20001))}),)
        self.assertIsNone(check_graph(self.schema, nodes))
        self.assertRaises(BadGraph, check_graph, self.schema, nodes + (("User", {"age": 1000}),))
        self.assertRaises(BadGraph, evaluate, nodes, self.nothing)

    def test_targets_in_another_order(self):
        schema = sides_schema()
        self.assertIsNone(check_graph(schema, (("A", {"any": (0, 1, 2), "pair": 2}), ("B", {}), ("C", {}))))
        self.assertRaises(BadGraph, check_graph, schema, (("A", {"pair": 0}), ("B", {}), ("C", {})))

    def test_names_that_begin_like_others(self):
        fields = (("a", True, "int", ()), ("aa", False, "int", ()), ("aaa", True, "one", ("T",)))
        schema = Schema((("T", fields),))
        self.assertIsNone(check_graph(schema, (("T", {"a1": 1, "aa": 2, "aaa1": 0, "a11": 3}),)))
        for key in ("a", "aa1", "aaa", "aaaa", "a111"):
            with self.subTest(key):
                self.assertRaises(BadGraph, check_graph, schema, (("T", {key: None}),))


class TestEvaluate(GraphsCase):
    def assert_response(self, graph, text, response):
        found = evaluate(graph, self.query(text))
        self.assertEqual(found, response)
        self.assertEqual(repr(found), repr(response))

    def test_the_root_alone(self):
        self.assert_response(FULL, "{ }", {"Type": "Query"})

    def test_values(self):
        self.assert_response(FULL, "{ user(7) { age posts { likes } } }", {
            "Type": "Query", "user7": {"Type": "User", "age": -999, "posts": [{"Type": "Post", "likes": 999}]},
        })

    def test_zero(self):
        self.assert_response((("Query", {"user0": 1}), ("User", {"age": 0})), "{ user(0) { age } }",
                             {"Type": "Query", "user0": {"Type": "User", "age": 0}})

    def test_objects_of_several_types(self):
        self.assert_response(FULL, "{ feed { ... User { age } ... Post { likes } } }", {"Type": "Query", "feed": [
            {"Type": "Post", "likes": 999}, {"Type": "User", "age": -999}, {"Type": "Post", "likes": 999},
        ]})
        self.assert_response(FULL, "{ feed { ... User { age } } }", {"Type": "Query", "feed": [
            {"Type": "Post"}, {"Type": "User", "age": -999}, {"Type": "Post"},
        ]})

    def test_fields_without_a_value(self):
        text = "{ user(0) { age } user(1) { } user(7) { age posts { author { } likes } } feed { } }"
        nothing = {"Type": "Query", "feed": [], "user0": None, "user1": None, "user7": None}
        self.assert_response((("Query", {}),), text, nothing)
        self.assert_response((("Query", {"user0": None, "feed": (), "user1": None}),), text, nothing)
        graph = (("Query", {"user7": 1}), ("User", {"age": None, "posts": (2,)}), ("Post", {"likes": None}))
        post = {"Type": "Post", "author": None, "likes": None}
        self.assert_response(graph, text, {**nothing, "user7": {"Type": "User", "age": None, "posts": [post]}})

    def test_written_keys_and_their_order(self):
        self.assert_response(FULL, "{ z: user(7) { b: age a: age age } user(7) { } a: feed { } user10: user(0) { age } }", {
            "Type": "Query",
            "a": [{"Type": "Post"}, {"Type": "User"}, {"Type": "Post"}],
            "user10": None,
            "user7": {"Type": "User"},
            "z": {"Type": "User", "a": -999, "age": -999, "b": -999},
        })

    def test_a_key_that_is_another_field_key(self):
        graph = (("Query", {"user1": 1, "user2": 2}), ("User", {"age": 1}), ("User", {"age": 2}))
        self.assert_response(graph, "{ user1: user(2) { age } user2: user(1) { age } }", {
            "Type": "Query", "user1": {"Type": "User", "age": 2}, "user2": {"Type": "User", "age": 1},
        })

    def test_a_node_reached_twice(self):
        graph = (("Query", {"feed": (1, 1), "user7": 1}), ("User", {"age": 5}))
        user = {"Type": "User", "age": 5}
        self.assert_response(graph, "{ feed { ... User { age } } user(7) { age } }",
                             {"Type": "Query", "feed": [user, user], "user7": user})
        found = evaluate(graph, self.query("{ feed { ... User { age } } user(7) { age } a: user(7) { age } }"))
        told = [id(part) for part in dicts_in(found)]
        self.assertEqual(len(told), len(set(told)))

    def test_a_graph_that_leads_back_to_itself(self):
        self.assert_response(FULL, "{ user(7) { posts { author { age } } } }", {"Type": "Query", "user7": {
            "Type": "User", "posts": [{"Type": "Post", "author": {"Type": "User", "age": -999}}],
        }})
        schema = Schema((("T", (("i", False, "int", ()), ("o", False, "one", ("T",)), ("m", False, "many", ("T",)))),))
        graph = (("T", {"i": 4, "o": 0, "m": (0, 0)}),)
        self.assertEqual(evaluate(graph, Query(schema, "{ o { i } m { o { i } } }")), {
            "Type": "T", "m": [{"Type": "T", "o": {"Type": "T", "i": 4}}] * 2, "o": {"Type": "T", "i": 4},
        })

    def test_arguments_stay_and_what_is_returned_is_new(self):
        graph, query = copy.deepcopy(FULL), self.query("{ feed { ... User { posts { } } } user(7) { age } }")
        form = repr(query.form)
        first, second = evaluate(graph, query), evaluate(graph, query)
        self.assertEqual(first, second)
        self.assertEqual(repr(graph), repr(FULL))
        self.assertEqual((repr(query.form), query.text), (form, self.query(query.text).text))
        told = [id(part) for part in dicts_in(first) + dicts_in(second) + dicts_in(graph) + dicts_in(query.form)]
        self.assertEqual(len(told), len(set(told)))

    def test_made_up_graphs(self):
        for schema, seed in ((example_schema(), 21), (sides_schema(), 22), (wide_schema(), 23)):
            numbers = Numbers(seed)
            queries = some_queries(schema, numbers, 30)
            for _ in range(10):
                graph = any_graph(schema, numbers, 1 + numbers.below(8))
                for query in queries:
                    wanted = plain_response(graph, query)
                    found = evaluate(graph, query, most=10 ** 9)
                    self.assertEqual(found, wanted)
                    self.assertEqual(repr(found), repr(wanted))
                    self.assertLessEqual(objects_of(found), max_objects(query, 3))


class TestMost(GraphsCase):
    def assert_objects(self, graph, text, many):
        query = self.query(text)
        with self.subTest(text):
            self.assertEqual(objects_of(evaluate(graph, query, most=many)), many)
            self.assertEqual(evaluate(graph, query, most=many + 1), evaluate(graph, query, most=many))
            for most in (many - 1, many - 2, 0, -1):
                self.assertRaises(TooLarge, evaluate, graph, query, most=most)

    def test_most_just_met_and_just_passed(self):
        self.assert_objects(FULL, "{ }", 1)
        self.assert_objects(FULL, "{ user(7) { age } }", 2)
        self.assert_objects(FULL, "{ user(0) { age } user(1) { } }", 1)
        self.assert_objects(FULL, "{ feed { ... User { age } } }", 4)
        self.assert_objects(FULL, "{ feed { ... User { posts { author { } } } ... Post { author { } } } }", 8)

    def test_every_occurrence_counts(self):
        self.assert_objects(FULL, "{ a: user(7) { } b: user(7) { } user(7) { } }", 4)
        self.assert_objects(FULL, "{ feed { } f: feed { ... User { posts { } p: posts { } } } }", 9)

    def test_300_unless_told(self):
        graph = (("Query", {"feed": (1,) * 10}), ("User", {"posts": (2,) * 10}), ("Post", {"author": 1}))
        users = self.query("{ f: feed { ... User { a: posts { } b: posts { } } } feed { ... User { posts { } } } }")
        self.assertRaises(TooLarge, evaluate, graph, users)
        self.assertEqual(objects_of(evaluate(graph, users, most=321)), 321)
        # 1 + 10 * (1 + 20) + 8 * 11 = 299, and one or two more.
        lists = "f: feed { ... User { a: posts { } b: posts { } } }" + "".join(f" k{k}: user(7) {{ posts {{ }} }}" for k in range(8))
        graph = (("Query", {"feed": (1,) * 10, "user7": 1, "user8": 3}), *graph[1:], ("User", {}))
        for more, many in (("", 299), (" x: user(8) { }", 300), (" x: user(8) { } y: user(8) { }", 301)):
            query = self.query("{ " + lists + more + " }")
            if many > 300:
                self.assertRaises(TooLarge, evaluate, graph, query)
                self.assertRaises(TooLarge, evaluate, graph, query, most=300)
            else:
                self.assertEqual(objects_of(evaluate(graph, query)), many)
            self.assertEqual(objects_of(evaluate(graph, query, most=301)), many)

    def test_most_is_passed_by_keyword(self):
        self.assertRaises(TypeError, evaluate, FULL, self.nothing, 300)

    def test_far_too_large(self):
        schema = Schema((("T", (("m", False, "many", ("T",)),)),))
        below = "{" + " ".join(f"{key}:m{{}}" for key in "abcdefgh") + "}"
        query = Query(schema, "{" + " ".join(f"{key}:m{{m{below}}}" for key in "abcde") + "}")
        graph = (("T", {"m": (0,) * 10}),)
        self.assertRaises(TooLarge, evaluate, graph, query)
        self.assertEqual(max_objects(query, 10), 1 + 5 * 10 * (1 + 10 * (1 + 8 * 10)))
        self.assertRaises(TooLarge, evaluate, graph, query, most=max_objects(query, 10) - 1)

    def test_bad_graph_ahead_of_too_large(self):
        query = self.query("{ user(7) { } }")
        for graph in (
            (("Query", {"user7": 1}), ("User", {"age": 1000})), (("Query", {"user7": 1}),) + (("User", {}),) * 30,
            (("Query", {"user7": 1, "feed": (1,) * 11}), ("User", {})),
        ):
            self.assertRaises(BadGraph, evaluate, graph, query, most=1)
            self.assertRaises(BadGraph, evaluate, graph, query, most=0)

    def test_no_response_has_more_than_max_objects(self):
        for schema, seed in ((example_schema(), 31), (sides_schema(), 32)):
            numbers = Numbers(seed)
            for query in some_queries(schema, numbers, 40):
                for length in range(4):
                    graph = any_graph(schema, numbers, 5, length)
                    evaluate(graph, query, most=max_objects(query, length))


class TestDifference(GraphsCase):
    def assert_difference(self, first, second, graph, schema=None):
        one, other = [Query(schema or self.schema, text) for text in (first, second)]
        with self.subTest((first, second)):
            found = difference(one, other)
            self.assertEqual(repr(found), repr(graph))
            self.assertNotEqual(evaluate(found, one), evaluate(found, other))

    def test_none(self):
        for first, second in (
            ("{ }", "{ ... Query { } }"), ("{ user(7) { age } }", "{ user7: user(7) { age: age age } }"),
            ("{ feed { ... User { age } } }", "{ feed { } feed { ... User { age } ... Post { } } }"),
        ):
            with self.subTest((first, second)):
                self.assertIsNone(difference(self.query(first), self.query(second)))

    def test_only_one_has_the_entry(self):
        for first, second in (("{ feed { } }", "{ }"), ("{ k: user(7) { } }", "{ user(7) { } }"), ("{ a: feed { } }", "{ }")):
            self.assert_difference(first, second, (("Query", {}),))
            self.assert_difference(second, first, (("Query", {}),))

    def test_different_fields(self):
        self.assert_difference("{ k: user(7) { } }", "{ k: user(8) { } }", (("Query", {"user7": 1}), ("User", {})))
        self.assert_difference("{ k: user(8) { } }", "{ k: user(7) { } }", (("Query", {"user8": 1}), ("User", {})))
        # The first target is that of the order of the schema: User.
        self.assert_difference("{ k: feed { } }", "{ k: user(7) { } }", (("Query", {"feed": (1,)}), ("User", {})))
        self.assert_difference("{ k: user(7) { } }", "{ k: feed { } }", (("Query", {"user7": 1}), ("User", {})))

    def test_a_sample_of_the_kind_int(self):
        user = "{ user(7) { k: %s } }"
        self.assert_difference(user % "age", user % "posts { }", (("Query", {"user7": 1}), ("User", {"age": 0})))
        self.assert_difference(user % "posts { }", user % "age",
                               (("Query", {"user7": 1}), ("User", {"posts": (2,)}), ("Post", {})))
        schema = Schema((("T", (("i", True, "int", ()),)),))
        self.assert_difference("{ k: i(3) }", "{ k: i(5) }", (("T", {"i3": 0}),), schema)

    def test_below_entries(self):
        self.assert_difference("{ k: user(7) { age } }", "{ k: user(7) { } }", (("Query", {"user7": 1}), ("User", {})))
        feed = "{ feed { %s } }"
        self.assert_difference(feed % "... User { age }", feed % "", (("Query", {"feed": (1,)}), ("User", {})))
        self.assert_difference(feed % "... Post { likes }", feed % "", (("Query", {"feed": (1,)}), ("Post", {})))
        deep = feed % "... User { posts { author { %s } } }"
        chain = (("Query", {"feed": (1,)}), ("User", {"posts": (2,)}), ("Post", {"author": 3}))
        self.assert_difference(deep % "age", deep % "", (*chain, ("User", {})))
        self.assert_difference(deep % "", deep % "age", (*chain, ("User", {})))
        posts = feed % "... User { posts { k: %s } }"
        self.assert_difference(posts % "likes", posts % "author { }", (*chain[:2], ("Post", {"likes": 0})))
        self.assert_difference(posts % "author { age }", posts % "likes", (*chain, ("User", {})))

    def test_the_first_difference(self):
        # By type: User stands ahead of Post. By key: "a" ahead of "b". What is below an entry ahead of the next one.
        self.assert_difference("{ feed { ... Post { likes } } }", "{ feed { ... User { age } } }",
                               (("Query", {"feed": (1,)}), ("User", {})))
        self.assert_difference("{ a: user(1) { x: age } b: user(2) { } }", "{ a: user(1) { } b: user(3) { } }",
                               (("Query", {"user1": 1}), ("User", {})))
        self.assert_difference("{ a: user(1) { } b: user(2) { } }", "{ a: user(1) { } b: user(3) { } c: feed { } }",
                               (("Query", {"user2": 1}), ("User", {})))
        self.assert_difference("{ k: user(7) { } z: feed { } }", "{ k: user(8) { } a: feed { } }", (("Query", {}),))
        self.assert_difference("{ user(10) { age } user(9) { } }", "{ user(10) { } user(9) { age } }",
                               (("Query", {"user10": 1}), ("User", {})))

    def test_made_up_queries(self):
        for schema, seed in ((example_schema(), 41), (sides_schema(), 42), (wide_schema(), 43)):
            queries = some_queries(schema, Numbers(seed), 30, 2)
            for first in queries:
                for second in queries:
                    found = difference(first, second)
                    self.assertEqual(found is None, first.text == second.text)
                    self.assertEqual(repr(found), repr(difference_by_chains(first, second)))
                    if found is not None:
                        self.assertNotEqual(evaluate(found, first), evaluate(found, second))

    def test_arguments_stay_and_what_is_returned_is_new(self):
        first, second = self.query("{ feed { ... User { age } } }"), self.query("{ feed { ... User { age: posts { } } } }")
        kept = repr((first.form, second.form))
        told = [difference(first, second), difference(first, second)]
        self.assertEqual(repr((first.form, second.form)), kept)
        parts = [id(part) for part in dicts_in(told)]
        self.assertEqual(len(parts), len(set(parts)))


def difference_by_chains(first, second):
    """The graph of point 18 by a comparison of all chains of entries."""
    schema, one, other = first.schema, chains_of(first.schema, first.form), chains_of(first.schema, second.form)
    for chain in sorted(set(one) | set(other)):
        if one.get(chain) != other.get(chain):
            sample = one[chain][-1] if chain in one and chain in other else None
            return graph_by_chain(schema, chain, one.get(chain) or other.get(chain), sample)
    return None


def graph_by_chain(schema, chain, fields, sample):
    """The chain for all entries but the last one, whose type the last node has, with a sample value or none."""
    nodes = []
    for at, (_, type_name, _) in enumerate(chain):
        field = fields[at] if at + 1 < len(chain) else sample
        if field is None:
            return (*nodes, (type_name, {}))
        name, argument = field
        kind, targets = schema.field_of(type_name, name)[2], schema.targets_of(type_name, name)
        value = {"int": 0, "one": at + 1, "many": (at + 1,)}[kind]
        nodes.append((type_name, {name if argument is None else f"{name}{argument}": value}))
    return (*nodes, (targets[0], {})) if targets else tuple(nodes)


class TestUndetermined(GraphsCase):
    def assert_pair(self, texts, text, first, second):
        queries, query = [self.query(told) for told in texts], self.query(text)
        with self.subTest((texts, text)):
            found = undetermined(queries, query)
            self.assertEqual(repr(found), repr((first, second)))
            for told in queries:
                self.assertEqual(evaluate(found[0], told), evaluate(found[1], told))
            self.assertNotEqual(evaluate(found[0], query), evaluate(found[1], query))

    def assert_none(self, texts, text):
        with self.subTest((texts, text)):
            self.assertIsNone(undetermined([self.query(told) for told in texts], self.query(text)))

    def test_none(self):
        self.assert_none([], "{ }")
        self.assert_none(["{ feed { } }"], "{ }")
        self.assert_none(["{ a: user(7) { age } }"], "{ b: user(7) { x: age y: age } c: user(7) { } }")
        self.assert_none(["{ user(7) { age } }", "{ user(7) { posts { likes } } }"], "{ user(7) { posts { likes } age } }")

    def test_no_queries(self):
        self.assert_pair([], "{ feed { } }", (("Query", {}),), (("Query", {"feed": (1,)}), ("User", {})))

    def test_samples_of_all_kinds(self):
        root = ("Query", {"user7": 1})
        self.assert_pair(["{ feed { } }"], "{ user(7) { age } }", (("Query", {}),), (root, ("User", {})))
        self.assert_pair(["{ user(7) { } }"], "{ user(7) { age } }", (root, ("User", {})), (root, ("User", {"age": 0})))
        self.assert_pair(["{ user(7) { } }"], "{ user(7) { posts { } } }",
                         (root, ("User", {})), (root, ("User", {"posts": (2,)}), ("Post", {})))

    def test_below_entries(self):
        chain = (("Query", {"feed": (1,)}), ("User", {"posts": (2,)}))
        self.assert_pair(["{ feed { ... User { posts { likes } } } }"], "{ feed { ... User { posts { author { age } } } } }",
                         (*chain, ("Post", {})), (*chain, ("Post", {"author": 3}), ("User", {})))
        self.assert_pair(["{ feed { ... User { posts { } age } } }", "{ feed { ... Post { author { } } } }"],
                         "{ feed { ... Post { author { age } } ... User { age } } }",
                         (("Query", {"feed": (1,)}), ("Post", {"author": 2}), ("User", {})),
                         (("Query", {"feed": (1,)}), ("Post", {"author": 2}), ("User", {"age": 0})))

    def test_the_first_field(self):
        # By type, and by the field keys, not by the keys of the query; what is below an entry ahead of the next one.
        root = ("Query", {"feed": (1,)})
        self.assert_pair(["{ feed { } }"], "{ feed { ... Post { likes } ... User { posts { } } } }",
                         (root, ("User", {})), (root, ("User", {"posts": (2,)}), ("Post", {})))
        self.assert_pair(["{ user(1) { } }"], "{ a: user(2) { } b: user(1) { age } c: user(10) { } }",
                         (("Query", {"user1": 1}), ("User", {})), (("Query", {"user1": 1}), ("User", {"age": 0})))
        self.assert_pair([], "{ a: user(2) { } c: user(10) { } }",
                         (("Query", {}),), (("Query", {"user10": 1}), ("User", {})))

    def test_made_up_queries(self):
        for schema, seed in ((example_schema(), 51), (sides_schema(), 52), (wide_schema(), 53)):
            numbers = Numbers(seed)
            known = some_queries(schema, numbers, 25, 2)
            for query in known + some_queries(schema, numbers, 40):
                queries = [numbers.one_of(known) for _ in range(numbers.below(4))]
                self.assert_by_chains(schema, queries, query)
                self.assertIsNone(undetermined([*queries, query], query))

    def assert_by_chains(self, schema, queries, query):
        union = union_of(schema, [field_form(told) for told in queries])
        found = undetermined(queries, query)
        self.assertEqual(found is None, contains(union, field_form(query)))
        chains, has = chains_of(schema, field_form(query)), chains_of(schema, union)
        further = [chain for chain in chains if chain not in has]
        if not further:
            self.assertIsNone(found)
            return
        fields = chains[further[0]]
        wanted = tuple(graph_by_chain(schema, further[0], fields, sample) for sample in (None, fields[-1]))
        self.assertEqual(repr(found), repr(wanted))
        for told in queries:
            self.assertEqual(evaluate(found[0], told), evaluate(found[1], told))
        self.assertNotEqual(evaluate(found[0], query), evaluate(found[1], query))

    def test_arguments_stay_and_what_is_returned_is_new(self):
        queries, query = [self.query("{ feed { } }")], self.query("{ feed { ... User { posts { } } } }")
        kept = list(queries)
        told = [undetermined(queries, query), undetermined(queries, query)]
        self.assertTrue(len(queries) == 1 and queries[0] is kept[0])
        self.assertEqual((queries[0].text, query.text), ("{ feed { } }", "{ feed { ... User { posts { } } } }"))
        parts = [id(part) for part in dicts_in(told)]
        self.assertEqual(len(parts), len(set(parts)))
        self.assertIsInstance(told[0], tuple)
        self.assertEqual(repr(undetermined(tuple(queries), query)), repr(told[0]))


if __name__ == "__main__":
    unittest.main()
