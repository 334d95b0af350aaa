"""Points 11 and 12: normal texts of normal forms."""

import copy
import itertools
import unittest

from fieldquery.printing import form_text
from fieldquery.schemas import Schema, field_key
from samples import example_schema, sides_schema


def entry(name, below=None, number=None):
    return ((name, number), below)


def read_back(schema, words, place):
    """The normal form that the words of a normal text tell, read apart from the program."""
    form = {name: {} for name in place}
    assert words.pop(0) == "{"
    while words[0] != "}":
        if words[0] == "...":
            _, name = words.pop(0), words.pop(0)
            form[name].update(read_back(schema, words, (name,))[name])
        else:
            key, told = read_entry(schema, words, place)
            for name in place:
                form[name][key] = copy.deepcopy(told)
    words.pop(0)
    return {name: dict(sorted(entries.items())) for name, entries in form.items()}


def read_entry(schema, words, place):
    key = words.pop(0)[:-1] if words[0].endswith(":") else None
    name, bracket, number = words.pop(0).partition("(")
    field = (name, int(number[:-1]) if bracket else None)
    targets = {schema.targets_of(type_name, name) for type_name in place}
    assert len(targets) == 1
    below = read_back(schema, words, min(targets)) if min(targets) else None
    return key or field_key(field), (field, below)


class TestOneType(unittest.TestCase):
    def assert_text(self, form, text):
        self.assertEqual(form_text(example_schema(), form), text)

    def test_empty_form(self):
        for name in ("Query", "User", "Post"):
            with self.subTest(name):
                self.assert_text({name: {}}, "{ }")

    def test_field_of_kind_int(self):
        self.assert_text({"User": {"age": entry("age")}}, "{ age }")

    def test_own_key(self):
        self.assert_text({"User": {"years": entry("age")}}, "{ years: age }")

    def test_number(self):
        for number in (0, 7, 10, 99):
            with self.subTest(number):
                form = {"Query": {f"user{number}": entry("user", {"User": {}}, number)}}
                self.assert_text(form, f"{{ user({number}) {{ }} }}")

    def test_own_key_and_number(self):
        self.assert_text({"Query": {"me": entry("user", {"User": {}}, 7)}}, "{ me: user(7) { } }")

    def test_own_key_like_the_name_of_a_field_with_a_number(self):
        self.assert_text({"Query": {"user": entry("user", {"User": {}}, 0)}}, "{ user: user(0) { } }")

    def test_own_key_like_another_field_key(self):
        self.assert_text({"Query": {"user7": entry("user", {"User": {}}, 8)}}, "{ user7: user(8) { } }")
        self.assert_text({"User": {"age": entry("posts", {"Post": {}})}}, "{ age: posts { } }")

    def test_own_key_that_the_field_key_begins(self):
        self.assert_text({"Query": {"user10": entry("user", {"User": {}}, 1)}}, "{ user10: user(1) { } }")

    def test_several_entries(self):
        user = {"User": {"age": entry("age"), "old": entry("age"), "posts": entry("posts", {"Post": {}})}}
        self.assert_text(user, "{ age old: age posts { } }")

    def test_selection_within_a_selection(self):
        author = entry("author", {"User": {"age": entry("age")}})
        form = {"User": {"posts": entry("posts", {"Post": {"author": author, "likes": entry("likes")}})}}
        self.assert_text(form, "{ posts { author { age } likes } }")

    def test_empty_selection_within_a_selection(self):
        form = {"User": {"posts": entry("posts", {"Post": {"author": entry("author", {"User": {}})}})}}
        self.assert_text(form, "{ posts { author { } } }")

    def test_entries_by_key_character_by_character(self):
        below = {"User": {}}
        numbers = {f"user{number}": entry("user", below, number) for number in (0, 10, 7, 77)}
        form = {"Query": {"a": entry("user", below, 3), "user": entry("user", below, 4), **numbers}}
        text = "{ a: user(3) { } user: user(4) { } user(0) { } user(10) { } user(7) { } user(77) { } }"
        self.assert_text(form, text)

    def test_deep_selections(self):
        form, text = {"User": {"age": entry("age")}}, "{ age }"
        for _ in range(5):
            form = {"User": {"posts": entry("posts", {"Post": {"author": entry("author", form)}})}}
            text = f"{{ posts {{ author {text} }} }}"
        self.assert_text(form, text)


class TestExamples(unittest.TestCase):
    def test_first(self):
        age, likes = entry("age"), entry("likes")
        feed = entry("feed", {"User": {"age": age}, "Post": {"likes": likes}})
        me = entry("user", {"User": {"age": age}}, 7)
        text = "{ feed { ... User { age } ... Post { likes } } me: user(7) { age } }"
        self.assertEqual(form_text(example_schema(), {"Query": {"feed": feed, "me": me}}), text)

    def test_second(self):
        post = {"Post": {"author": entry("author", {"User": {}}), "likes": entry("likes")}}
        user = {"age": entry("age"), "posts": entry("posts", post)}
        form = {"Query": {"feed": entry("feed", {"User": user, "Post": {}})}}
        text = "{ feed { ... User { age posts { author { } likes } } } }"
        self.assertEqual(form_text(example_schema(), form), text)


class TestSeveralTypes(unittest.TestCase):
    def assert_text(self, form, text):
        """The text of a form, at the top and below a field."""
        schema = sides_schema()
        self.assertEqual(form_text(schema, form), text)
        field = "any" if len(form) == 3 else "pair"
        self.assertEqual(form_text(schema, {"A": {field: entry(field, form)}}), f"{{ {field} {text} }}")

    def test_no_entries(self):
        self.assert_text({"B": {}, "C": {}}, "{ }")
        self.assert_text({"A": {}, "B": {}, "C": {}}, "{ }")

    def test_all_share(self):
        same = {"same1": entry("same", None, 1)}
        self.assert_text({"B": same, "C": same}, "{ same(1) }")

    def test_all_share_by_key(self):
        entries = {"a": entry("same", None, 3), "near": entry("near", {"A": {}}), "same2": entry("same", None, 2)}
        self.assert_text({"B": entries, "C": dict(entries)}, "{ a: same(3) near { } same(2) }")

    def test_some_share(self):
        same = {"same1": entry("same", None, 1)}
        self.assert_text({"A": {}, "B": same, "C": same}, "{ ... B { same(1) } ... C { same(1) } }")

    def test_only_one_has_entries(self):
        self.assert_text({"B": {"own": entry("own")}, "C": {}}, "{ ... B { own } }")
        self.assert_text({"B": {}, "C": {"mine": entry("mine")}}, "{ ... C { mine } }")
        self.assert_text({"A": {}, "B": {}, "C": {"mine": entry("mine")}}, "{ ... C { mine } }")

    def test_shared_ahead_of_the_others(self):
        same = entry("same", None, 0)
        form = {"B": {"own": entry("own"), "same0": same}, "C": {"mine": entry("mine"), "same0": same}}
        self.assert_text(form, "{ same(0) ... B { own } ... C { mine } }")

    def test_shared_and_one_type_with_more(self):
        same = entry("same", None, 0)
        self.assert_text({"B": {"same0": same}, "C": {"mine": entry("mine"), "same0": same}},
                         "{ same(0) ... C { mine } }")

    def test_further_entries_by_key(self):
        own = {"a": entry("same", None, 5), "own": entry("own"), "z": entry("own")}
        self.assert_text({"B": own, "C": {}}, "{ ... B { a: same(5) own z: own } }")

    def test_same_key_with_another_field(self):
        form = {"B": {"k": entry("own")}, "C": {"k": entry("mine")}}
        self.assert_text(form, "{ ... B { k: own } ... C { k: mine } }")

    def test_same_key_with_another_number(self):
        form = {"B": {"k": entry("same", None, 1)}, "C": {"k": entry("same", None, 2)}}
        self.assert_text(form, "{ ... B { k: same(1) } ... C { k: same(2) } }")

    def test_same_field_with_another_key(self):
        form = {"B": {"k": entry("same", None, 1)}, "C": {"same1": entry("same", None, 1)}}
        self.assert_text(form, "{ ... B { k: same(1) } ... C { same(1) } }")

    def test_other_targets(self):
        form = {"B": {"next": entry("next", {"A": {}})}, "C": {"next": entry("next", {"B": {}})}}
        self.assert_text(form, "{ ... B { next { } } ... C { next { } } }")

    def test_unlike_forms_below(self):
        pair = {"A": {"pair": entry("pair", {"B": {}, "C": {}})}}
        form = {"B": {"near": entry("near", pair)}, "C": {"near": entry("near", {"A": {}})}}
        self.assert_text(form, "{ ... B { near { pair { } } } ... C { near { } } }")

    def test_unlike_kinds_are_shared(self):
        pair = {"A": {"pair": entry("pair", {"B": {}, "C": {}})}}
        form = {"B": {"near": entry("near", pair)}, "C": {"near": entry("near", pair)}}
        self.assert_text(form, "{ near { pair { } } }")

    def test_targets_told_in_another_order_are_shared(self):
        below = {"A": {}, "B": {"own": entry("own")}}
        form = {"B": {"far": entry("far", below)}, "C": {"far": entry("far", copy.deepcopy(below))}}
        self.assert_text(form, "{ far { ... B { own } } }")

    def test_shared_within_shared(self):
        same = {"same1": entry("same", None, 1)}
        pair = {"A": {"pair": entry("pair", {"B": same, "C": same})}}
        form = {"B": {"near": entry("near", pair)}, "C": {"near": entry("near", pair)}}
        self.assert_text(form, "{ near { pair { same(1) } } }")

    def test_types_in_the_order_of_the_schema(self):
        schema = Schema((("Zz", (("a", False, "int", ()),)), ("Aa", (("b", False, "int", ()),))))
        form = {"Zz": {"a": entry("a")}, "Aa": {"b": entry("b")}}
        self.assertEqual(form_text(schema, form), "{ ... Zz { a } ... Aa { b } }")

    def test_kind_int_and_another_kind(self):
        schema = Schema((("A", (("f", False, "int", ()),)), ("B", (("f", False, "one", ("A",)),))))
        form = {"A": {"f": entry("f")}, "B": {"f": entry("f", {"A": {}})}}
        self.assertEqual(form_text(schema, form), "{ ... A { f } ... B { f { } } }")

    def test_five_types(self):
        names = ("A", "B", "C", "D", "E")
        schema = Schema(tuple((name, (("f", False, "int", ()), ("g", False, "int", ()))) for name in names))
        all_have = {name: {"f": entry("f")} for name in names}
        self.assertEqual(form_text(schema, all_have), "{ f }")
        last_has_not = {**all_have, "E": {}}
        text = "{ ... A { f } ... B { f } ... C { f } ... D { f } }"
        self.assertEqual(form_text(schema, last_has_not), text)
        last_has_more = {**all_have, "E": {"f": entry("f"), "g": entry("g")}}
        self.assertEqual(form_text(schema, last_has_more), "{ f ... E { g } }")
        only_first_and_last = {**{name: {} for name in names}, "A": {"g": entry("g")}, "E": {"g": entry("g")}}
        self.assertEqual(form_text(schema, only_first_and_last), "{ ... A { g } ... E { g } }")


class TestTextsAndForms(unittest.TestCase):
    def test_text_has_its_form_and_no_other(self):
        schema, texts = sides_schema(), {}
        forms = list(forms_of_a_pair())
        for form in forms:
            text = form_text(schema, form)
            self.assertEqual(read_back(schema, text.split(" "), ("B", "C")), form)
            self.assertNotIn(text, texts)
            texts[text] = form
        self.assertEqual(len(texts), 6 ** 4)


def forms_of_a_pair():
    """Forms of the place (B, C) with at most two entries a type."""
    deep = {"A": {"pair": entry("pair", {"B": {"own": entry("own")}, "C": {}})}}
    alike = (None, entry("same", None, 0), entry("same", None, 11), entry("near", {"A": {}}), entry("near", deep))
    rows_of_b = rows_with(alike + (entry("next", {"A": {}}),))
    rows_of_c = rows_with(alike + (entry("next", {"B": {}}),))
    for row_of_b, row_of_c in itertools.product(rows_of_b, rows_of_c):
        yield {"B": row_of_b, "C": row_of_c}


def rows_with(entries):
    """Each dict with the keys near and same0, or one or none of them, to these entries."""
    pairs = itertools.product(entries, entries)
    return [{key: told for key, told in (("near", low), ("same0", high)) if told} for low, high in pairs]


class TestNothingIsModified(unittest.TestCase):
    def test_form_stays_as_it_was(self):
        form = {"B": {"near": entry("near", {"A": {}}), "own": entry("own")}, "C": {"near": entry("near", {"A": {}})}}
        kept = copy.deepcopy(form)
        schema = sides_schema()
        first = form_text(schema, form)
        self.assertEqual(form, kept)
        self.assertEqual([list(row) for row in form.values()], [list(row) for row in kept.values()])
        self.assertEqual(form_text(schema, form), first)
        self.assertEqual(schema.types, sides_schema().types)


if __name__ == "__main__":
    unittest.main()
