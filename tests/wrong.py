"""Things that are no names, and things that are no numbers or rows."""

from lednames.errors import NoName
from lednames.tables import Lead, Stop, Table, Thing


def deep(many, make):
    value = make(())
    for _ in range(many):
        value = make((value,))
    return value


def endless_list():
    value = []
    value.append(value)
    return value


def odd_things():
    """Things of the built-in kinds and of the classes of the interface: no lists, no tuples, no numbers, no rows."""
    return [
        None, True, False, 1.5, 2j, "", "a", "ab", b"", b"a", bytearray(b"a"), memoryview(b"a"),
        range(0), range(3), set(), {"a"}, frozenset(["a"]), {}, {"a": 1}, {"a": 1}.keys(), {"a": 1}.items(),
        slice(1), iter(["a"]), (label for label in ["a"]), enumerate(["a"]), zip(["a"]), map(str, ["a"]),
        object(), object, list, tuple, str, len, print, lambda: 1, Ellipsis, NotImplemented,
        ValueError("a"), NoName(["a"]), Table([]), Thing, Table,
    ]


def no_names():
    rows = [Thing(["a"], 1), Stop(["a"]), Lead(["a"], [])]
    labels = odd_things() + rows + [0, 7, [], ["a"], (), ("a",)]
    labels = [label for label in labels if label not in ("a", "ab")]
    labels += ["A", "aB", "a1", "1", "a.b", "a b", " a", "a ", "a\n", "\n", "a_", "a-b", "abcdefghi", "z" * 500,
               "\u00e9", "a\u00e9", "\u00df", "\u00aa", "\u0430", "\uff41", "\u4e00", "\x00"]
    many = odd_things() + rows + [0, 7, -1, 10 ** 40]
    many += [[label] for label in labels]
    many += [(label,) for label in labels[:12]]
    many += [["a", "b", 3], ("a", None), [3, "a"], ["a"] * 150 + [None], ["a", "B"] + ["c"] * 100]
    many += [deep(50000, list), deep(50000, tuple), ["a", deep(50000, list)], endless_list()]
    many += [deep(3, lambda inner: {"a": inner})]
    return many


def no_numbers():
    rows = [Thing(["a"], 1), Stop(["a"])]
    return odd_things() + rows + [[], [1], (), (1,), "1", "0", 1.0, deep(50000, list)]


def no_rows():
    return odd_things() + [0, 5, [], ["a"], (), ("thing", ("a",), 1), [Stop(["a"])], "stop a", deep(50000, list)]
