"""Things that several tests need: fields with all their values, and things of all kinds."""

from itertools import product

from jointkeys import errors
from jointkeys.desk import Desk
from jointkeys.fields import Ended, Fixed, Listed, Marked, Number, Word
from jointkeys.keeping import Pair
from jointkeys.layouts import Layout
from jointkeys.mending import Mend, Stretch, Wish
from jointkeys.stores import Store

SIGNS = "-./0123456789ABCDEFGHIJKLMNOPQRSTUVWXYZ_abcdefghijklmnopqrstuvwxyz"

# Each error class with the names of its fields, in order.
ERRORS = {
    "BadField": ("what",),
    "NoValue": ("value",),
    "NoText": ("text",),
    "BadLayout": ("what",),
    "NoRow": ("place",),
    "Large": ("count",),
    "NoJoint": ("k",),
    "NotWhole": ("index",),
    "Hopeless": ("index",),
    "NoPlace": ("place",),
    "Unbounded": ("index",),
    "Clash": ("one", "other"),
    "BadText": ("place",),
}


def some_fields():
    return [
        Word("ab", 0, None), Number(0, None), Fixed(2), Listed(["a", ""]),
        Ended("ab", ".", 0, 2), Marked("N", "m", Number(1, 5)),
    ]


def some_generator():
    yield "a"


def built_in_things():
    """Objects of the built-in types of Python that are neither strings nor numbers."""
    return [
        True, False, 0.0, 1.0, 7.0, float("nan"), float("inf"), 1j, b"", b"a", bytearray(b"a"),
        memoryview(b"a"), [], ["a"], [1], [[]], (), ("a",), (1,), {}, {"a": 1}, set(), {"a"},
        frozenset("a"), range(3), slice(1), object(), object, int, str, type, len, "a".upper,
        str.upper, some_generator, some_generator(), lambda value: value, iter([]), iter("a"),
        enumerate([]), zip(), map(str, []), filter(None, []), reversed([]), property(),
        staticmethod(len), classmethod(len), super(Word, Word("a", 0, 1)), Ellipsis,
        NotImplemented, {}.keys(), {}.values(), {}.items(), ValueError("a"), KeyError(1), errors,
    ]


def own_things():
    """Objects of the classes of the interface, and these classes."""
    made = [getattr(errors, name)(*["a"] * len(names)) for name, names in ERRORS.items()]
    pair = Pair(("a",), ("b",))
    layout = Layout([Word("ab", 0, 1), Fixed(1)], ["!"])
    made += [layout, pair, Store(layout), Desk(layout)]
    made += [Wish(True, [0]), Stretch("alike", 0, 1, pair), Mend([0], [Stretch("alike", 0, 1, pair)]), Mend((), ())]
    return some_fields() + made + [Word, Marked, Layout, Pair, Wish, Mend, Store, Desk, errors.BadField]


def neither_text_nor_number():
    return built_in_things() + own_things()


def words(signs, least, most):
    """All words of these lengths, in the order of strings."""
    return sorted("".join(each) for length in range(least, most + 1)
                  for each in product(signs, repeat=length))


def pairs_of_words(signs, least, most):
    return [(word, word) for word in words(signs, least, most)]


def with_all_values():
    """Small fields, each with all its values in order and their texts, as [4] tells them."""
    cases = [(Word(signs, least, most), pairs_of_words(signs, least, most))
             for signs in ("a", "ba", "z-0") for least in range(3) for most in range(least, 4)]
    cases += [(Ended(signs, sign, least, most),
               [(word, word + sign) for word in words(signs, least, most)])
              for signs, sign in (("a", "b"), ("a", "-"), ("db", "c"), ("0.", "/"))
              for least in range(3) for most in range(least, 4)]
    ends = [0, 1, 5, 8, 9, 10, 11, 98, 99, 100, 101, 102, 110, 999, 1000, 1001]
    cases += [(Number(least, most), [(number, str(number)) for number in range(least, most + 1)])
              for least in ends[:12] for most in ends if least <= most]
    cases += [(Fixed(width), [(number, str(number).zfill(width)) for number in range(10 ** width)])
              for width in (1, 2, 3)]
    lists = [[""], ["", "a"], ["a", ""], ["b", "a"], ["a", "ab"], ["ab", "a"], ["b", "bbb"],
             ["b", "bb", "bbb"], ["ab", "b"], ["ab", "bc", "abc"], ["a", "b", "ba"],
             ["b", "c", "abc", "bc"], ["abc", "b"], ["", "b", "ab"], ["", "a", "aa", "aaa"],
             ["10", "9", "1"], ["-", "_", ".", "/"], ["aba", "ba", "b", "a"]]
    cases += [(Listed(texts), [(text, text) for text in texts]) for texts in lists]
    marked = []
    for field, values in cases:
        used = "".join(text for _, text in values)
        none, mark = [sign for sign in "NmZ" if sign not in used][:2]
        for first, second in ((none, mark), (mark, none)):
            texts = [(None, first)] + [(value, second + text) for value, text in values]
            marked.append((Marked(first, second, field), texts))
    return cases + marked
