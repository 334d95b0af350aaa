"""Points 2, 3 and 27 to 30: papers, their judges and their makers."""

import copy
import unittest

from fieldquery.errors import Contradiction, NoMatch
from fieldquery.fieldforms import contains, field_form, union_of
from fieldquery.graphs import difference, undetermined
from fieldquery.knowledge import project
from fieldquery.papers import explain_determined, explain_same, explain_told
from fieldquery.papers import judge_determined, judge_same, judge_told
from fieldquery.queries import Query
from fieldquery.schemas import Schema
from samples import HostileInteger, HostileText, HostileTuple, Numbers, any_graph, are_unlike, chains_of, deep_tuple
from samples import dicts_in, example_schema, facts_of, plain_response, sides_schema, some_queries, strange_things
from samples import wide_schema
from samples import post, root, user

EMPTY = (("Query", {}),)


def path_of(*names):
    """A path in the example schema: pairs of a type, a dot and a name, perhaps with a number."""
    path = []
    for name in names:
        type_name, _, field = name.partition(".")
        word = field.rstrip("0123456789")
        path.append((type_name, (word, int(field[len(word):]) if field != word else None)))
    return tuple(path)


def replaced(rows, at, row):
    return (*rows[:at], row, *rows[at + 1:])


def strange_papers(*papers):
    """Values that are no papers: strange things, and papers with one thing turned into a strange one."""
    found = strange_things()
    for paper in papers:
        found += [(*paper, None), (*paper, ()), paper[:-1], list(paper), HostileTuple(paper), (paper,), dict(enumerate(paper))]
        found += [(list(paper[:1]), *paper[1:]), (paper[0].upper(), *paper[1:]), (HostileText(paper[0]), *paper[1:])]
        found += [(paper[0] + " ", *paper[1:]), ("", *paper[1:]), (paper[0].encode(), *paper[1:]), ((paper[0],), *paper[1:])]
        found += [replaced(paper, at, thing) for at in range(len(paper)) for thing in strange_things() if not alike(thing, paper[at])]
    return found


def alike(thing, part):
    return type(thing) is type(part) and type(thing) in (int, str) and thing == part


class PapersCase(unittest.TestCase):
    def setUp(self):
        self.schema = example_schema()

    def query(self, text):
        return Query(self.schema, text)

    def queries(self, *texts):
        return [self.query(text) for text in texts]


class TestDetermined(PapersCase):
    TEXTS = ("{ feed { ... User { age } } k: user(7) { age } }", "{ user(7) { posts { likes } } user(8) { } user(7) { age } }")
    TEXT = "{ a: user(7) { b: age posts { likes } } user(8) { } feed { ... User { age } } }"
    FEED, AGE = path_of("Query.feed", "User.age"), path_of("Query.user7", "User.age")
    LIKES, USER = path_of("Query.user7", "User.posts", "Post.likes"), path_of("Query.user8")
    ROWS = ((FEED, 0), (AGE, 0), (LIKES, 1), (USER, 1))

    def assert_taken(self, texts, text, paper, taken=True):
        found = judge_determined(self.queries(*texts), self.query(text), paper)
        self.assertIs(found, taken, "paper")

    def assert_rows(self, rows, taken):
        self.assert_taken(self.TEXTS, self.TEXT, ("determined", rows), taken)

    def test_taken(self):
        self.assert_rows(self.ROWS, True)
        # The first query has the age of user 7, too.
        self.assert_rows(replaced(self.ROWS, 1, (self.AGE, 1)), True)

    def test_no_paths(self):
        for texts in ((), ("{ }",), ("{ user(7) { } }", "{ }")):
            self.assert_taken(texts, "{ }", ("determined", ()))
            self.assert_taken(texts, "{ ... Query { } }", ("determined", ()))
            for rows in (((), ), (((), 0),), [], None, {}, "", (((),),)):
                self.assert_taken(texts, "{ }", ("determined", rows), False)

    def test_paths_that_end_where_nothing_is_below(self):
        paper = ("determined", ((path_of("Query.user7"), 0),))
        self.assert_taken(["{ user(7) { age } }"], "{ user(7) { } }", paper)
        self.assert_taken(["{ user(7) { } }"], "{ user(7) { } }", paper)
        self.assert_taken(["{ user(7) { age } }"], "{ user(7) { age } }", paper, False)
        paper = ("determined", ((path_of("Query.feed"), 0),))
        self.assert_taken(["{ feed { } }"], "{ feed { ... User { } ... Post { } } }", paper)
        self.assert_taken(["{ feed { } }"], "{ feed { ... User { age } } }", paper, False)

    def test_order(self):
        # By type, User ahead of Post, and by field key; what is below an entry in its place.
        text = "{ feed { ... Post { likes author { age } } ... User { posts { author { } } age } } user(9) { } user(10) { } }"
        paths = (
            path_of("Query.feed", "User.age"), path_of("Query.feed", "User.posts", "Post.author"),
            path_of("Query.feed", "Post.author", "User.age"), path_of("Query.feed", "Post.likes"),
            path_of("Query.user10"), path_of("Query.user9"),
        )
        rows = tuple((path, 1) for path in paths)
        self.assert_taken(["{ }", text], text, ("determined", rows))
        for at in range(len(rows) - 1):
            turned = replaced(replaced(rows, at, rows[at + 1]), at + 1, rows[at])
            self.assert_taken(["{ }", text], text, ("determined", turned), False)

    def test_one_thing_turned(self):
        rows = self.ROWS
        for at, (path, k) in enumerate(rows):
            self.assert_rows(rows[:at] + rows[at + 1:], False)
            self.assert_rows(rows[:at] + (rows[at],) + rows[at:], False)
            for other in (path[:-1], path + path[-1:], path[::-1] if len(path) > 1 else (), list(path), (list(path[0]), *path[1:])):
                self.assert_rows(replaced(rows, at, (other, k)), False)
            for other in (-1, -2, 2, 3, 100, 10 ** 5000, True, False, None, "0", 0.0, (0,), HostileInteger(k)):
                self.assert_rows(replaced(rows, at, (path, other)), False)
            for row in ((path,), (path, k, k), (k, path), [path, k], (path, k, None), {path: k}, path, k, None, ()):
                self.assert_rows(replaced(rows, at, row), False)
        self.assert_rows(rows[::-1], False)
        self.assert_rows(rows + rows[:1], False)
        self.assert_rows(list(rows), False)

    def test_another_query_that_does_not_have_the_path(self):
        for at, k in ((0, 1), (2, 0), (3, 0)):
            self.assert_rows(replaced(self.ROWS, at, (self.ROWS[at][0], k)), False)

    def test_pairs_turned(self):
        for pair in (
            ("Query", ("user", 8)), ("Query", ("user", None)), ("Query", ("user", "7")), ("Query", ("user", 7.0)), ("Query", "user7"),
            ("User", ("user", 7)), (None, ("user", 7)), ("Query", ("user", 7), None), ("Query",), ("Query", ["user", 7]),
            ["Query", ("user", 7)], ("Query", ("user", 7, None)), ("Query", ("user",)), ("Query", None), (("Query",), ("user", 7)),
            ("Query", (HostileText("user"), 7)), (HostileText("Query"), ("user", 7)), ("Query", ("user", HostileInteger(7))),
            HostileTuple(("Query", ("user", 7))), ("Query", HostileTuple(("user", 7))), deep_tuple(100000), None, 7,
        ):
            self.assert_rows(replaced(self.ROWS, 1, ((pair, self.AGE[1]), 0)), False)
        self.assert_rows(replaced(self.ROWS, 1, ((("Query", ("user", 7)), self.AGE[1]), 0)), True)

    def test_numbers_0_and_1_are_not_false_and_true(self):
        for number in (0, 1):
            text = "{ user(%d) { } }" % number
            self.assert_taken([text], text, ("determined", (((("Query", ("user", number)),), 0),)))
            self.assert_taken([text], text, ("determined", (((("Query", ("user", bool(number))),), 0),)), False)

    def test_undetermined(self):
        texts, text = ["{ user(7) { posts { likes } } }", "{ feed { } }"], "{ user(7) { age } }"
        first, second = (("Query", {"user7": 1}), ("User", {})), (("Query", {"user7": 1}), ("User", {"age": 0}))
        self.assert_taken(texts, text, ("undetermined", first, second))
        self.assert_taken(texts, text, ("undetermined", second, first))
        third = (("Query", {"user7": 2}), ("Post", {}), ("User", {"age": 5}))
        self.assert_taken(texts, text, ("undetermined", third, second))
        # Equal responses to the query, unlike responses to one of the others, and no graphs.
        self.assert_taken(texts, text, ("undetermined", first, first), False)
        self.assert_taken(texts, text, ("undetermined", first, EMPTY), False)
        more = (("Query", {"user7": 1, "feed": (1,)}), ("User", {"age": 0}))
        self.assert_taken(texts, text, ("undetermined", first, more), False)
        self.assert_taken(texts[:1], text, ("undetermined", first, more))
        for graph in ((), (("User", {}),), (("Query", {"user7": 1}), ("User", {"age": 1000})), [*first], None, "Query"):
            self.assert_taken(texts, text, ("undetermined", first, graph), False)
            self.assert_taken(texts, text, ("undetermined", graph, first), False)
            self.assert_taken((), text, ("undetermined", EMPTY, graph), False)

    def test_undetermined_without_queries(self):
        self.assert_taken([], "{ feed { } }", ("undetermined", EMPTY, (("Query", {"feed": (0,)}),)), False)
        self.assert_taken([], "{ feed { } }", ("undetermined", EMPTY, (("Query", {"feed": (1,)}), ("Post", {}))))
        self.assert_taken([], "{ }", ("undetermined", EMPTY, (("Query", {"feed": (1,)}), ("Post", {}))), False)

    def test_values_that_are_only_written_alike(self):
        # An object and a list of it, None and an empty list, the number of a node and an integer.
        schema = Schema((
            ("T", (("o", False, "one", ("A", "B")), ("i", False, "int", ()))),
            ("A", (("x", False, "one", ("T",)), ("i", False, "int", ()))),
            ("B", (("x", False, "many", ("T",)), ("i", False, "int", ()))),
        ))
        query = Query(schema, "{ o { x { i } } }")
        for first, second in (
            ((("T", {"o": 1}), ("A", {})), (("T", {"o": 1}), ("B", {}))),
            ((("T", {"o": 1}), ("A", {"x": 0})), (("T", {"o": 1}), ("A", {}))),
            ((("T", {"o": 1}), ("B", {"x": (0,)})), (("T", {"o": 1}), ("B", {"x": ()}))),
            ((("T", {"o": 1}), ("B", {"x": (0,)})), (("T", {"o": 1}), ("B", {"x": (0, 0)}))),
            ((("T", {"o": 1}), ("B", {"x": (0,)})), (("T", {"o": 1}), ("B", {"x": (2,)}), ("T", {"i": 0}))),
        ):
            self.assertIs(judge_determined([], query, ("undetermined", first, second)), True)
            self.assertIs(judge_determined([query], query, ("undetermined", first, second)), False)
        for first, second in (
            ((("T", {"o": 1}), ("A", {})), (("T", {"o": 1}), ("A", {"x": None, "i": 5}))),
            ((("T", {"o": 1}), ("B", {})), (("T", {"o": 2, "i": 7}), ("A", {}), ("B", {"x": ()}))),
            ((("T", {"o": 1}), ("B", {"x": (0, 0)})), (("T", {"o": 2}), ("T", {"o": 2}), ("B", {"x": (0, 1)}))),
        ):
            self.assertIs(judge_determined([], query, ("undetermined", first, second)), False)

    def test_makers_and_judges(self):
        for schema, seed in ((example_schema(), 101), (sides_schema(), 102), (wide_schema(), 103)):
            numbers = Numbers(seed)
            known = some_queries(schema, numbers, 30, 2)
            for query in known + some_queries(schema, numbers, 30):
                for queries in ([numbers.one_of(known) for _ in range(numbers.below(4))], known, [query]):
                    self.assert_explained(schema, queries, query)

    def assert_explained(self, schema, queries, query):
        paper = explain_determined(queries, query)
        self.assertIs(judge_determined(queries, query, paper), True)
        union = union_of(schema, [field_form(told) for told in queries])
        if not contains(union, field_form(query)):
            self.assertEqual(paper[0], "undetermined")
            return
        word, rows = paper
        self.assertEqual(word, "determined")
        self.assertEqual([path for path, _ in rows], ending_paths(schema, field_form(query)))
        for at, (path, k) in enumerate(rows):
            self.assertIn(path, all_paths(schema, field_form(queries[k])))
            self.assertIs(judge_determined(queries, query, (word, rows[:at] + rows[at + 1:])), False)
            for other, told in enumerate(queries):
                has = path in all_paths(schema, field_form(told))
                self.assertIs(judge_determined(queries, query, (word, replaced(rows, at, (path, other)))), has)
        # No pair of graphs shows the opposite; that of other queries least of all.
        pair = undetermined([], query)
        if pair is not None:
            self.assertIs(judge_determined(queries, query, ("undetermined", *pair)), False)

    def test_strange_papers(self):
        queries, query = self.queries(*self.TEXTS), self.query(self.TEXT)
        pair = undetermined(queries[:1], query)
        self.assertIs(judge_determined(queries[:1], query, ("undetermined", *pair)), True)
        for paper in strange_papers(("determined", self.ROWS), ("undetermined", *pair), ("same",)):
            self.assertIs(judge_determined(queries, query, paper), False)
            self.assertIs(judge_determined(queries[:1], query, paper), False)

    def test_arguments_stay(self):
        queries, query = self.queries(*self.TEXTS), self.query(self.TEXT)
        papers = [("determined", self.ROWS), ("undetermined", *undetermined(queries[:1], query))]
        kept = repr((papers, [told.form for told in queries], query.form))
        for paper in papers:
            judge_determined(queries, query, paper)
        explain_determined(queries, query)
        explain_determined(queries[:1], query)
        self.assertEqual(repr((papers, [told.form for told in queries], query.form)), kept)
        made = [explain_determined(queries[:1], query) for _ in range(2)]
        parts = [id(part) for part in dicts_in(made)]
        self.assertEqual(len(parts), len(set(parts)))


def all_paths(schema, form):
    chains = chains_of(schema, form)
    return [tuple((name, field) for (_, name, _), field in zip(chain, fields)) for chain, fields in chains.items()]


def ending_paths(schema, form):
    """The paths that no other path goes on from, in order."""
    paths = all_paths(schema, form)
    beginnings = {path[:-1] for path in paths}
    return [path for path in paths if path not in beginnings]


class TestSame(PapersCase):
    def assert_taken(self, first, second, paper, taken=True):
        self.assertIs(judge_same(self.query(first), self.query(second), paper), taken)
        self.assertIs(judge_same(self.query(second), self.query(first), paper), taken)

    def test_same(self):
        for first, second, taken in (
            ("{ }", "{ }", True), ("{ user(7) { age } }", "{ user7: user(7) { age age } user(7) { } }", True),
            ("{ user(7) { } }", "{ }", False), ("{ a: feed { } }", "{ b: feed { } }", False),
            ("{ user(7) { age } }", "{ user(7) { } }", False), ("{ k: user(7) { } }", "{ k: user(8) { } }", False),
        ):
            self.assert_taken(first, second, ("same",), taken)

    def test_differ(self):
        first, second = "{ k: user(7) { age } }", "{ k: user(8) { age } }"
        for graph, taken in (
            (EMPTY, False), ((("Query", {"user7": 1}), ("User", {})), True), ((("Query", {"user8": 1}), ("User", {})), True),
            ((("Query", {"user7": 1, "user8": 1}), ("User", {"age": 3})), False),
            ((("Query", {"user7": 1, "user8": 2}), ("User", {"age": 3}), ("User", {"age": 3})), False),
            ((("Query", {"user7": 1, "user8": 2}), ("User", {"age": 3}), ("User", {"age": 4})), True),
            ((("Query", {"user7": 1, "user8": 2}), ("User", {"age": None}), ("User", {"posts": ()})), False),
        ):
            self.assert_taken(first, second, ("differ", graph), taken)
        self.assert_taken("{ user(7) { } }", "{ }", ("differ", EMPTY))
        self.assert_taken("{ a: feed { } }", "{ b: feed { } }", ("differ", EMPTY))
        self.assert_taken("{ feed { } }", "{ feed: user(7) { } }", ("differ", EMPTY))
        self.assert_taken("{ feed { } }", "{ feed { } }", ("differ", (("Query", {"feed": (1,)}), ("User", {}))), False)

    def test_what_is_told_of_unlike_fields(self):
        user7 = ("Query", {"user7": 1})
        texts = "{ user(7) { k: age } }", "{ user(7) { k: posts { } } }"
        self.assert_taken(*texts, ("differ", (user7, ("User", {}))))
        self.assert_taken(*texts, ("differ", EMPTY), False)
        texts = "{ feed { ... Post { k: likes } } }", "{ feed { ... Post { k: author { } } } }"
        for values, taken in (({}, False), ({"likes": 0}, True), ({"author": 2}, True), ({"likes": 2, "author": 2}, True)):
            self.assert_taken(*texts, ("differ", (("Query", {"feed": (1,)}), ("Post", values), ("User", {}))), taken)
            self.assert_taken(*texts, ("differ", (("Query", {"feed": ()}), ("Post", values), ("User", {}))), False)

    def test_what_is_no_graph(self):
        first, second = "{ user(7) { } }", "{ }"
        for graph in ((), (("User", {}),), (("Query", {"user": 1}),), (("Query", {"user7": 1}),), [("Query", {})], None, {}):
            self.assert_taken(first, second, ("differ", graph), False)
        self.assert_taken(first, second, ("differ", EMPTY, EMPTY), False)
        self.assert_taken(first, second, ("same", EMPTY), False)

    def test_strange_papers(self):
        graph = (("Query", {"user7": 1}), ("User", {"age": 0}))
        for first, second in (("{ user(7) { age } }", "{ user(7) { } }"), ("{ feed { } }", "{ feed { } }")):
            for paper in strange_papers(("differ", graph), ("same",)):
                self.assert_taken(first, second, paper, False)

    def test_makers_and_judges(self):
        for schema, seed in ((example_schema(), 111), (sides_schema(), 112), (wide_schema(), 113)):
            numbers = Numbers(seed)
            queries = some_queries(schema, numbers, 30, 2)
            graphs = [any_graph(schema, numbers, 3) for _ in range(3)]
            for first in queries:
                for second in queries[:10]:
                    paper = explain_same(first, second)
                    same = first.text == second.text
                    self.assertEqual(paper[0], "same" if same else "differ")
                    self.assertIs(judge_same(first, second, paper), True)
                    self.assertIs(judge_same(first, second, ("same",)), same)
                    for graph in graphs:
                        differ = plain_response(graph, first) != plain_response(graph, second)
                        self.assertIs(judge_same(first, second, ("differ", graph)), differ)

    def test_what_is_made_is_new(self):
        first, second = self.query("{ user(7) { age } }"), self.query("{ user(7) { } }")
        made = [explain_same(first, second) for _ in range(2)]
        parts = [id(part) for part in dicts_in(made)]
        self.assertEqual(len(parts), len(set(parts)))
        self.assertEqual(explain_same(first, first), ("same",))


class TestTold(PapersCase):
    def assert_taken(self, pairs, paper, taken=True):
        queries, responses = self.queries(*[text for text, _ in pairs]), [response for _, response in pairs]
        kept = copy.deepcopy(responses)
        self.assertIs(judge_told(queries, responses, paper), taken)
        self.assertEqual(responses, kept)

    def test_graph(self):
        pairs = [
            ("{ a: user(7) { age } feed { ... User { b: age } } }", root(a=user(age=1), feed=[post(), user(b=None)])),
            ("{ user(7) { posts { likes } } user(8) { } }", root(user7=user(posts=[post(likes=0)]), user8=None)),
        ]
        graph = (("Query", {"user7": 1, "feed": (2, 3)}), ("User", {"age": 1, "posts": (4,)}), ("Post", {"likes": 5}), ("User", {}),
                 ("Post", {"likes": 0}))
        self.assert_taken(pairs, ("graph", graph))
        self.assert_taken(pairs[:1], ("graph", graph))
        self.assert_taken(pairs[::-1], ("graph", graph))
        # The same node may stand for several objects, and more may be in the graph than is told.
        self.assert_taken(pairs, ("graph", (("Query", {"user7": 1, "feed": (2, 3), "user99": 1}), ("User", {"age": 1, "posts": (2,)}),
                                            ("Post", {"likes": 0, "author": 3}), ("User", {"posts": (2, 2)}))))
        for at, values in (
            (0, {"user7": 1}), (0, {"user7": 1, "feed": (3, 2)}), (0, {"user7": 1, "feed": (2, 3, 2)}), (0, {"feed": (2, 3)}),
            (0, {"user7": 3, "feed": (2, 3)}), (0, {"user7": 1, "feed": (2, 3), "user8": 3}), (1, {"age": 2, "posts": (4,)}),
            (1, {"posts": (4,)}), (1, {"age": 1}), (1, {"age": 1, "posts": (2,)}), (3, {"age": 0}), (4, {}), (4, {"likes": -1}),
            (0, {"user7": 1, "feed": (4, 1)}), (4, {"likes": 1000}), (0, {"user7": 1, "feed": [2, 3]}),
        ):
            self.assert_taken(pairs, ("graph", replaced(graph, at, (graph[at][0], values))), False)
        for at in range(len(graph)):
            self.assert_taken(pairs, ("graph", graph[:at] + graph[at + 1:]), False)

    def test_responses_that_match_nothing(self):
        for text, response in (
            ("{ }", None), ("{ }", root(feed=[])), ("{ user(7) { } }", root(user7=1)), ("{ feed { } }", root(feed=None)),
            ("{ user(7) { age } }", root(user7=user(age=True))), ("{ feed { } }", root(feed=[user(), None])),
            ("{ a: feed { } b: feed { } }", root(a=[], b=[post()])), ("{ a: user(7) { } b: user(7) { } }", root(a=None, b=user())),
        ):
            for graph in (EMPTY, (("Query", {"user7": 1, "feed": (1,)}), ("User", {"age": 1}))):
                self.assert_taken([(text, response)], ("graph", graph), False)
            for other in (root(), response):
                pairs = [(text, response), ("{ }" if other == root() else text, other)]
                for path in ((), ("user7",), ("feed",), ("feed", 0), ("user7", "age")):
                    self.assert_taken(pairs, ("contradict", 0, 1, path), False)
        for thing in strange_things():
            self.assert_taken_quietly("{ feed { } user(7) { age } }", thing)

    def assert_taken_quietly(self, text, response):
        query = self.query(text)
        for paper in (("graph", EMPTY), ("contradict", 0, 0, ()), ("contradict", 0, 1, ("feed",)), None, ("same",)):
            self.assertIs(judge_told([query, query], [response, response], paper), False)

    PAIRS = [
        ("{ a: user(7) { b: age c: posts { likes } } feed { ... User { age } } k: feed { } }",
         root(a=user(b=1, c=[post(likes=1)]), feed=[post(), user(age=1), post()], k=[post(), user(), post()])),
        ("{ user(7) { age posts { d: likes } } user(8) { } f: feed { ... User { age } } }",
         root(user7=user(age=2, posts=[post(d=None)]), user8=None, f=[user(age=1), user(age=0), post()])),
        ("{ user(7) { } user(8) { age } feed { } }", root(user7=None, user8=user(age=0), feed=[])),
        ("{ user(7) { posts { } } user(8) { age } }", root(user7=user(posts=[]), user8=user(age=None))),
    ]

    def test_contradict(self):
        for i, j, path in (
            (0, 1, ("user7", "age")), (0, 1, ("user7", "posts", 0, "likes")), (0, 1, ("feed", 0)), (0, 1, ("feed", 1, "age")),
            (0, 2, ("user7",)), (1, 2, ("user7",)), (0, 2, ("feed",)), (1, 2, ("feed",)), (1, 2, ("user8",)), (0, 3, ("user7", "posts")),
            (1, 3, ("user7", "posts")), (1, 3, ("user8",)), (2, 3, ("user7",)), (2, 3, ("user8", "age")),
        ):
            with self.subTest((i, j, path)):
                self.assert_taken(self.PAIRS, ("contradict", i, j, path))
                self.assert_taken(self.PAIRS, ("contradict", j, i, path))
                for turned in (path[:-1], (*path, 0), (*path, "age"), (*path, path[-1]), path[1:], list(path), str(path), None):
                    self.assert_taken(self.PAIRS, ("contradict", i, j, turned), False)

    def test_values_that_are_alike_or_not_told(self):
        for i, j, path in (
            (0, 1, ()), (0, 1, ("user7",)), (0, 1, ("feed",)), (0, 1, ("feed", 2)), (0, 1, ("feed", 3)), (0, 1, ("feed", -1)),
            (0, 1, ("feed", -3)), (0, 1, ("feed", True)), (0, 1, ("feed", False)), (0, 1, ("feed", "0")), (0, 1, ("feed", 0.0)),
            (0, 1, ("feed", None)), (0, 1, ("feed", (0,))), (0, 1, ("a", "b")), (0, 1, ("a", "age")), (0, 1, ("user7", "b")),
            (0, 1, ("f", 0)), (0, 1, ("k", 0)), (0, 1, ("user8",)), (0, 1, ("user7", "Type")), (0, 1, ("Type",)),
            (0, 1, ("user7", "posts")), (0, 1, ("user7", "posts", 0)), (0, 1, ("user7", "posts", 0, "d")), (0, 1, ("user", 7, "age")),
            (0, 1, (("user", 7), "age")), (0, 1, ("user7", "age", "age")), (0, 1, ("feed", 0, "age")), (0, 1, ("feed", 1)),
            (0, 1, ("feed", 10 ** 5000)), (0, 1, (0,)), (0, 1, ("user7", 0)), (0, 0, ("user7", "age")), (1, 1, ("feed", 0)),
            (0, 3, ("user7",)), (0, 3, ("user7", "posts", 0)), (0, 2, ("feed", 0)), (0, 2, ("user8",)), (1, 2, ("user8", "age")),
        ):
            self.assert_taken(self.PAIRS, ("contradict", i, j, path), False)

    def test_indices(self):
        for index in (-1, -4, 4, 5, True, False, None, "0", 0.0, (0,), [0], 10 ** 5000, HostileInteger(0)):
            self.assert_taken(self.PAIRS, ("contradict", index, 2, ("user7",)), False)
            self.assert_taken(self.PAIRS, ("contradict", 2, index, ("user7",)), False)
        self.assert_taken(self.PAIRS, ("contradict", 2, 0, ("user7",)), True)

    def test_steps(self):
        for step in (HostileText("user7"), "user07", "user 7", b"user7", 7, None, ("user7",), "User7", deep_tuple(100000)):
            self.assert_taken(self.PAIRS, ("contradict", 0, 2, (step,)), False)
            self.assert_taken(self.PAIRS, ("contradict", 0, 1, (step, "age")), False)
        for index in (HostileInteger(0), True, False, "0", None):
            self.assert_taken(self.PAIRS, ("contradict", 0, 1, ("feed", index)), False)
        self.assert_taken(self.PAIRS, ("contradict", 0, 2, HostileTuple(("user7",))), False)

    def test_long_paths(self):
        for path in (("user7",) * 5000, ("feed", 0) * 5000, deep_tuple(100000), ("feed", 0, deep_tuple(100000))):
            self.assert_taken(self.PAIRS, ("contradict", 0, 1, path), False)

    def test_one_of_the_responses_does_not_match(self):
        bad = ("{ user(7) { age } }", root(user7=user(age=1000)))
        pairs = [self.PAIRS[0], bad, self.PAIRS[2]]
        self.assert_taken(pairs, ("contradict", 0, 1, ("user7", "age")), False)
        self.assert_taken(pairs, ("contradict", 1, 0, ("user7", "age")), False)
        self.assert_taken(pairs, ("contradict", 0, 2, ("user7",)))
        self.assert_taken(pairs, ("graph", EMPTY), False)

    def test_values_below_objects_of_unlike_types(self):
        schema = Schema((
            ("T", (("o", False, "one", ("A", "B")),)), ("A", (("i", False, "int", ()), ("x", False, "one", ("A",)))),
            ("B", (("i", False, "int", ()), ("x", False, "many", ("A",)))),
        ))
        queries = [Query(schema, "{ o { i x { } } }")] * 2
        for one, other, taken in (
            ({"i": 1, "x": None}, {"i": 2, "x": []}, (True, True)),
            ({"i": 1, "x": {"Type": "A"}}, {"i": 1, "x": [{"Type": "A"}]}, (False, True)),
        ):
            responses = [{"Type": "T", "o": {"Type": "A", **one}}, {"Type": "T", "o": {"Type": "B", **other}}]
            self.assertIs(judge_told(queries, responses, ("contradict", 0, 1, ("o",))), True)
            for key, wanted in zip("ix", taken):
                self.assertIs(judge_told(queries, responses, ("contradict", 0, 1, ("o", key))), wanted)

    def test_strange_papers(self):
        graph = (("Query", {"user7": 1}), ("User", {"age": 0}))
        pairs = [("{ user(7) { age } }", root(user7=user(age=0))), ("{ k: user(7) { age } }", root(k=user(age=1)))]
        contradiction = ("contradict", 0, 1, ("user7", "age"))
        for paper in strange_papers(contradiction, ("graph", graph), ("same",)):
            self.assert_taken(pairs, paper, False)
            self.assert_taken(pairs[:1], paper, False)
        self.assert_taken(pairs, contradiction)
        self.assert_taken(pairs[:1], ("graph", graph))

    def test_explain_graph(self):
        queries = self.queries("{ user(7) { age } feed { } }", "{ k: user(7) { posts { likes } } }")
        responses = [root(user7=user(age=1), feed=[post()]), root(k=user(posts=[post(likes=2)]))]
        kept = copy.deepcopy(responses)
        paper = explain_told(queries, responses)
        self.assertEqual(paper[0], "graph")
        self.assertIs(judge_told(queries, responses, paper), True)
        made = [paper, explain_told(queries, responses)]
        parts = [id(part) for part in dicts_in(made) + dicts_in(responses)]
        self.assertEqual(len(parts), len(set(parts)))
        self.assertEqual(responses, kept)

    def test_explain_contradictions(self):
        queries = self.queries(*[text for text, _ in self.PAIRS])
        responses = [response for _, response in self.PAIRS]
        for i in range(4):
            for j in range(4):
                if i != j:
                    told = [queries[i], queries[j]], [responses[i], responses[j]]
                    paper = explain_told(*told)
                    self.assertEqual(paper[0], "contradict")
                    self.assertIs(judge_told(*told, paper), True)
        paper = explain_told(queries, responses)
        self.assertIs(judge_told(queries, responses, paper), True)

    def test_makers_and_judges(self):
        for schema, seed in ((example_schema(), 121), (sides_schema(), 122), (wide_schema(), 123)):
            numbers = Numbers(seed)
            queries = [query for query in some_queries(schema, numbers, 60) if query.text != "{ }"]
            words = {"graph": 0, "contradict": 0}
            for _ in range(150):
                graphs = [any_graph(schema, numbers, 1 + numbers.below(3), 2) for _ in range(2)]
                told = [numbers.one_of(queries) for _ in range(1 + numbers.below(3))]
                responses = [plain_response(numbers.one_of(graphs), query) for query in told]
                words[self.assert_told(told, responses, graphs)] += 1
            self.assertGreater(min(words.values()), 10)

    def assert_told(self, queries, responses, graphs):
        paper = explain_told(queries, responses)
        self.assertIs(judge_told(queries, responses, paper), True)
        facts = [fact for query, response in zip(queries, responses) for fact in facts_of(query, response)]
        self.assertEqual(paper[0], "contradict" if are_unlike(facts) else "graph")
        for graph in graphs:
            gives = [plain_response(graph, query) for query in queries] == responses
            self.assertIs(judge_told(queries, responses, ("graph", graph)), gives)
        paths = [dict(facts_of(query, response)) for query, response in zip(queries, responses)]
        for i, one in enumerate(paths):
            for j, other in enumerate(paths):
                for path in one:
                    unlike = path in other and one[path] != other[path]
                    self.assertIs(judge_told(queries, responses, ("contradict", i, j, path)), unlike)
        return paper[0]

    def test_explain_what_does_not_match_is_no_paper(self):
        self.assertRaises(NoMatch, explain_told, self.queries("{ }", "{ feed { } }"), [root(), root(feed=None)])


class TestLargeGraphs(PapersCase):
    """Graphs in papers may be of any size, and so may the responses on them be."""

    def wide(self, age, many):
        """A graph whose responses have many ** 3 objects, and more."""
        return (("Query", {"feed": (1,) * many}), ("User", {"age": age, "posts": (2,) * many}), ("Post", {"author": 1, "likes": 3}))

    def test_more_than_30_nodes(self):
        graph = (("Query", {"feed": tuple(range(1, 101))}),) + tuple(("User", {"age": age}) for age in range(100))
        other = replaced(graph, 100, ("User", {"age": -1}))
        first, second = self.query("{ feed { } }"), self.query("{ feed { ... User { age } } }")
        self.assertIs(judge_same(first, second, ("differ", graph)), True)
        self.assertIs(judge_determined([first], second, ("undetermined", graph, other)), True)
        self.assertIs(judge_determined([second], first, ("undetermined", graph, other)), False)
        self.assertIs(judge_determined([first], second, ("undetermined", graph, graph)), False)
        response = plain_response(graph, second)
        self.assertIs(judge_told([second], [response], ("graph", graph)), True)
        self.assertIs(judge_told([second], [response], ("graph", other)), False)
        paper = explain_told([second], [response])
        self.assertEqual(len(paper[1]), 101)
        self.assertIs(judge_told([second], [response], paper), True)

    def test_many_fields_and_elements(self):
        graph = (("Query", {f"user{number}": 1 for number in range(100)}), ("User", {"posts": (2,) * 1000}), ("Post", {}))
        query = self.query("{ user(99) { posts { } } }")
        self.assertIs(judge_told([query], [plain_response(graph, query)], ("graph", graph)), True)
        self.assertIs(judge_same(query, self.query("{ user(99) { } }"), ("differ", graph)), True)

    def test_responses_that_are_far_too_large_to_be_built(self):
        posts = self.query("{ feed { ... User { posts { likes } } } }")
        authors = self.query("{ feed { ... User { posts { author { age } } } } }")
        first, second = self.wide(1, 20000), self.wide(2, 20000)
        self.assertIs(judge_determined([posts], authors, ("undetermined", first, second)), True)
        self.assertIs(judge_determined([authors], posts, ("undetermined", first, second)), False)
        self.assertIs(judge_determined([authors], authors, ("undetermined", first, second)), False)
        self.assertIs(judge_determined([posts], authors, ("undetermined", first, self.wide(1, 20000))), False)
        self.assertIs(judge_determined([posts], authors, ("undetermined", first, self.wide(2, 20001))), False)
        self.assertIs(judge_same(posts, authors, ("differ", first)), True)
        self.assertIs(judge_same(posts, posts, ("differ", first)), False)
        small = plain_response(self.wide(1, 2), authors)
        self.assertIs(judge_told([authors], [small], ("graph", first)), False)
        self.assertIs(judge_told([authors], [small], ("graph", self.wide(1, 2))), True)

    def test_many_nodes(self):
        many = 20000
        nodes = tuple(("User", {"age": number % 5, "posts": (many + 1 - (number < 3),)}) for number in range(many - 1))
        graph = (("Query", {"feed": tuple(range(1, many))}), *nodes, ("Post", {"likes": 1}), ("Post", {"likes": 2}))
        bad = (*graph, ("User", {"posts": (0,)}))
        query, other = self.query("{ feed { ... User { age posts { likes } } } }"), self.query("{ feed { ... User { age } } }")
        turned = replaced(graph, many, ("Post", {"likes": 3}))
        self.assertIs(judge_determined([other], query, ("undetermined", graph, turned)), True)
        self.assertIs(judge_determined([other], query, ("undetermined", graph, bad)), False)
        self.assertIs(judge_same(query, other, ("differ", graph)), True)


class TestOneKindOfPaper(PapersCase):
    def test_just_one_of_two_kinds(self):
        for texts, text in ((["{ user(7) { age } }"], "{ user(7) { } }"), (["{ user(7) { } }"], "{ user(7) { age } }")):
            queries, query = self.queries(*texts), self.query(text)
            pair = undetermined(queries, query) or undetermined([], query)
            rows = tuple((path, 0) for path in ending_paths(self.schema, field_form(query)))
            taken = [judge_determined(queries, query, paper) for paper in (("determined", rows), ("undetermined", *pair))]
            self.assertEqual(taken.count(True), 1)
        first, second = self.queries("{ user(7) { age } }", "{ user(7) { } }")
        graph = difference(first, second)
        self.assertEqual([judge_same(first, second, paper) for paper in (("same",), ("differ", graph))], [False, True])
        self.assertEqual([judge_same(first, first, paper) for paper in (("same",), ("differ", graph))], [True, False])

    def test_papers_and_projections(self):
        queries = self.queries("{ user(7) { age } }", "{ user(7) { age } }")
        responses = [root(user7=user(age=1)), root(user7=user(age=2))]
        self.assertRaises(Contradiction, project, queries, responses, queries[0])
        self.assertEqual(explain_told(queries, responses)[0], "contradict")


if __name__ == "__main__":
    unittest.main()
