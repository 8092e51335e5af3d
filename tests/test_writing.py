"""nextsuch/writing.py: section 19 of the document."""

import unittest

from nextsuch import writing
from nextsuch.errors import BadText
from nextsuch.made import made
from nextsuch.looks import made_looks
from tests.plain import Dice, all_letters, texts_to, thrown_machines
from tests.plain_doings import BEGINS, EDGES, SMALL_KINDS, SOONER
from tests.plain_looks import long_texts, thrown_look_trees
from tests.plain_trees import IDLE, YES, thrown_chains, thrown_trees
from tests.plain_writing import first_bad, plain_written

ODD = (((1, 0), (0, 1)), (1,))
FIRST = (("ask", 0, "next", (1, 2), 1), ("order", 2, 1, 2, 3, 3), ("say", True), ("say", False))
EVEN = (("length", (1, 2)), ("look", "last", 0, (2, 3, 2)), ("say", False), ("say", True))
KINDS = ("machine", "tree", "looker", "naming", "chains", "bar", "text")


def write(kind, value):
    return getattr(writing, "write_" + kind)(value)


def read(kind, wide, written):
    if kind == "machine":
        return writing.read_machine(written)
    return getattr(writing, "read_" + kind)(wide, written)


def some_values():
    """Triples of a kind, wide and a value of this kind."""
    dice = Dice(201)
    for machine in thrown_machines(202, 48) + EDGES + [own for own, _, _ in SMALL_KINDS[::10]]:
        yield "machine", len(machine[0][0]), machine
    for wide, tree in thrown_trees(203, 60) + [(3, made(SOONER)), (2, made(BEGINS))]:
        yield "tree", wide, tree
    for wide, tree in thrown_look_trees(204, 40) + [(2, made_looks(BEGINS))]:
        yield "looker", wide, tree
    for at in range(40):
        wide = 1 + at % 3
        yield "naming", wide, tuple((("next", "last")[dice.below(2)], all_letters(wide)[dice.below(2 ** wide - 1)])
                                    for _ in range(1 + dice.below(6)))
    chains = thrown_chains(205, 45)
    for at, (wide, chain) in enumerate(chains):
        yield "chains", wide, (chain,) + tuple(own for own_wide, own in chains[at::9] if own_wide == wide)
    yield "chains", 2, ()
    for at, text in enumerate(texts_to(3, 2) + long_texts(206, 3, 6)):
        yield "text", 3, text
        word = ("coming", "onward", "backward", "asks", "looks")[at % 5]
        more = long_texts(at, 3, 1 if word == "coming" else 3, 6)
        yield "bar", 3, (word, text, *more)


VALUES = list(some_values())


class Examples(unittest.TestCase):
    def test_machine_and_tree(self):
        self.assertEqual(
            (writing.write_machine(ODD), writing.write_tree(FIRST)),
            ("machine\nstate 1 0\nend 0 1", "tree\nask 0 next 1 2 then 1\norder 2 1 2 3 3\nsay yes\nsay no"))
        self.assertEqual(
            (writing.read_machine(writing.write_machine(ODD)) == ODD,
             writing.read_tree(2, writing.write_tree(FIRST)) == FIRST, writing.write_text((1, 2)),
             writing.read_text(2, "text")),
            (True, True, "text 1 2", ()))

    def test_looker(self):
        self.assertEqual(
            (writing.write_looker(EVEN), writing.read_looker(2, writing.write_looker(EVEN)) == EVEN),
            ("looker\nlength 1 2\nlook last 0 2 3 2\nsay no\nsay yes", True))

    def test_chains_naming_and_bar(self):
        self.assertEqual(
            (writing.write_chains(((((2,), (1, 2)), (1,)), (((),), ()))),
             writing.read_naming(2, "naming\nnext 1\nlast 1 2")),
            ("chain\nset 2\nmark 1\nset 1 2\nchain\nset", (("next", (1,)), ("last", (1, 2)))))
        self.assertEqual(writing.read_bar(2, "bar coming\ntext 1 2\ntext 2 1"), ("coming", (1, 2), (2, 1)))

    def test_errors(self):
        for wide, written, line in ((1, writing.write_tree(FIRST), 2), (2, "tree\norder 0 1 1 1 2\nsay yes", 4),
                                    (2, "tree\nsay yes\nsay no", 3)):
            with self.assertRaises(BadText) as caught:
                writing.read_tree(wide, written)
            self.assertEqual(vars(caught.exception), {"line": line})


class Written(unittest.TestCase):
    def test_each_value_is_written_and_read_back(self):
        for kind, wide, value in VALUES:
            written = plain_written(kind, value)
            self.assertEqual(write(kind, value), written)
            for own_wide in range(wide, 4) if kind != "looker" else (wide,):
                self.assertEqual(repr(read(kind, own_wide, written)), repr(value))

    def test_lists(self):
        self.assertEqual(writing.write_machine([[[1, 0], [0, 1]], [1]]), "machine\nstate 1 0\nend 0 1")
        self.assertEqual(writing.write_tree([["ask", 0, "next", [1, 2], 1], ["say", True]]),
                         "tree\nask 0 next 1 2 then 1\nsay yes")
        self.assertEqual(writing.write_chains([[[[], [1]], [2]]]), "chain\nset\nmark 2\nset 1")
        self.assertEqual(writing.write_bar(["coming", [], [1]]), "bar coming\ntext\ntext 1")

    def test_great_numbers(self):
        tree = (("look", "next", 10 ** 12 - 1, (1, 1)), ("say", True))
        self.assertEqual(writing.read_looker(1, writing.write_looker(tree)), tree)
        self.check_bad("looker", 1, "looker\nlook next 1000000000000 1 1\nsay yes", 2)

    def check_bad(self, kind, wide, written, line):
        with self.assertRaises(BadText) as caught:
            read(kind, wide, written)
        self.assertEqual(vars(caught.exception), {"line": line}, (kind, written))


def bent_lines(line):
    """The line bent in one place, in all manner of ways."""
    words = line.split(" ")
    others = ("", "0", "1", "2", "3", "4", "5", "9", "01", "00", "-1", "+1", "1.0", "x", "say", "yes", "no", "ask", "order",
              "then", "next", "last", "text", "set", "mark", "chain", "state", "end", "tree", "machine", "looker", "look",
              "length", "naming", "bar", "coming", "asks", "1000000000000", "999999999999", "True", "\t1", "1\r", "1_0",
              "\u0661", "\u00b2")
    for at in range(len(words)):
        for other in others:
            yield " ".join(words[:at] + [other] + words[at + 1:])
        yield " ".join(words[:at] + words[at + 1:])
        yield " ".join(words[:at] + words[at:at + 1] + words[at:])
        yield " ".join(words[:at] + words[at:at + 1] + [""] + words[at + 1:])
        yield " ".join(words[:at + 1][::-1] + words[at + 1:])
    for more in (" ", " 1", " 2", " 3", "\t", "\r"):
        yield line + more
        yield more + line
    yield line.upper()
    yield line.replace(" ", "  ", 1)
    yield line.replace(" ", "\t", 1)


class Bent(unittest.TestCase):
    SMALL = {kind: [(wide, value) for own, wide, value in VALUES if own == kind] for kind in KINDS}

    def check(self, kind, wide, written):
        """The first line that can not stand is told, or just the value that is written as that."""
        bad = first_bad(kind, wide, written)
        if bad is None:
            value = read(kind, wide, written)
            self.assertEqual(plain_written(kind, value), written)
            return
        with self.assertRaises(BadText) as caught:
            read(kind, wide, written)
        self.assertEqual(vars(caught.exception), {"line": bad}, (kind, wide, written))

    def test_one_line_bent(self):
        for kind in KINDS:
            for wide, value in self.SMALL[kind][::4]:
                lines = plain_written(kind, value).split("\n")
                for at in range(min(len(lines), 12)):
                    for line in bent_lines(lines[at]):
                        self.check(kind, wide, "\n".join(lines[:at] + [line] + lines[at + 1:]))

    def test_lines_left_out_doubled_exchanged_and_put_in(self):
        for kind in KINDS:
            for wide, value in self.SMALL[kind]:
                lines = plain_written(kind, value).split("\n")
                for at in range(len(lines) + 1):
                    self.check(kind, wide, "\n".join(lines[:at]))
                    self.check(kind, wide, "\n".join(lines[at:]))
                    self.check(kind, wide, "\n".join(lines[:at] + lines[at + 1:]))
                    self.check(kind, wide, "\n".join(lines[:at] + lines[at:at + 1] + lines[at:]))
                    self.check(kind, wide, "\n".join(lines[:at] + [""] + lines[at:]))
                    self.check(kind, wide, "\n".join(lines[:at] + lines[at:at + 2][::-1] + lines[at + 2:]))
                    for more in ("say yes", "text 1", "set", "mark 1", "chain", "state 0 0", "end 0", "next 1", kind):
                        self.check(kind, wide, "\n".join(lines[:at] + [more] + lines[at:]))
                for more in ("\n", "\n\n", " ", "\r\n", "\nx", "\r"):
                    self.check(kind, wide, "\n".join(lines) + more)
                    self.check(kind, wide, more + "\n".join(lines))

    def test_letters_beyond_wide(self):
        for kind in KINDS[1:]:
            for wide, value in self.SMALL[kind]:
                for less in range(1, wide):
                    self.check(kind, less, plain_written(kind, value))

    def test_one_kind_read_as_another(self):
        for kind in KINDS:
            for other in KINDS:
                for wide, value in self.SMALL[kind][:3]:
                    self.check(other, wide, plain_written(kind, value))

    def test_the_empty_string_and_empty_lines(self):
        for kind in KINDS:
            for wide in (1, 2, 3):
                for written in ("", "\n", " ", "\n\n", kind, kind + "\n", kind + " ", " " + kind, "x", "\r", "\u2028"):
                    self.check(kind, wide, written)
        self.assertEqual(writing.read_chains(2, ""), ())

    def test_known_ones(self):
        for kind, wide, written, line in (
                ("machine", 1, "machine", 2), ("machine", 1, "machine\nstate 1", 3), ("machine", 1, "machine\nstate", 2),
                ("machine", 1, "machine\nstate 0 0 0 0", 2), ("machine", 1, "machine\nstate 0 0\nend 1", 3),
                ("machine", 1, "machine\nstate 0\nend 5\nend 2", 5), ("machine", 1, "machine\nstart 0", 2),
                ("tree", 2, "tree", 2), ("tree", 2, "tree\nask 0 next 1 then 0", 2), ("tree", 2, "tree\nask 2 next 1 then 1", 2),
                ("tree", 2, "tree\nask 0 next 2 1 then 1\nsay yes", 2), ("tree", 2, "tree\nask 0 next then 1\nsay yes", 2),
                ("tree", 2, "tree\nask 0 next 1 then 2\nsay yes\nsay no", 3), ("tree", 2, "tree\norder 0 0 1 1 1\nsay yes", 2),
                ("tree", 2, "tree\norder 0 1 1 2 2\nask 0 next 1 then 2\norder 0 1 3 3 3\nsay yes", 4),
                ("tree", 2, "tree\norder 0 2 1 1 1\nsay yes", 2), ("tree", 2, "tree\nsay maybe", 2),
                ("tree", 2, "tree\norder 0 1 1 1 4\nsay yes\nsay no", 4), ("tree", 2, "tree\nask 0 next 1 then 3", 3),
                ("tree", 2, "tree\norder 0 1 1 2 3\nask 0 next 1 then 3\norder 0 1 3 3 3\norder 0 1 4 4 4\nsay yes", 5),
                ("tree", 2, "tree\norder 0 1 1 2 2\nask 0 next 1 then 3\nask 0 next 1 then 3\norder 0 1 4 4 4\nsay no", None),
                ("looker", 2, "looker\nlength\nsay yes", 2), ("looker", 2, "looker\nlook next 0 1 1\nsay yes", 2),
                ("looker", 2, "looker\nlook next 0 1 1 2\nsay yes", 4), ("looker", 2, "looker\nlook back 0 1 1 1\nsay yes", 2),
                ("naming", 2, "naming", 2), ("naming", 2, "naming\nnext", 2), ("naming", 2, "naming\nnext 1\nlast 2 1", 3),
                ("chains", 2, "chain", 2), ("chains", 2, "chain\nset\nmark 1", 4), ("chains", 2, "chain\nset 1\nset 2", 3),
                ("chains", 2, "chain\nset\nmark 1 2\nset", 3), ("chains", 2, "set", 1), ("chains", 2, "chain\nmark 1", 2),
                ("bar", 2, "bar coming\ntext", 3), ("bar", 2, "bar coming\ntext\ntext\ntext", 4), ("bar", 2, "bar odd", 1),
                ("bar", 2, "bar asks\ntext\ntext 3", 3), ("bar", 2, "bar", 1), ("bar", 2, "bar looks\ntext\ntext\ntext", 5),
                ("text", 2, "", 1), ("text", 2, "text\ntext", 2), ("text", 2, "text 3", 1), ("text", 2, "text 1\n", 2)):
            self.assertEqual(first_bad(kind, wide, written), line, (kind, written))
            self.check(kind, wide, written)

    def test_a_say_may_be_come_to_by_unlike_numbers_of_asks(self):
        written = "tree\norder 0 1 1 2 2\nask 0 next 1 then 2\nsay yes"
        self.assertEqual(writing.read_tree(1, written), (("order", 0, 1, 1, 2, 2), ("ask", 0, "next", (1,), 2), ("say", True)))
        self.check("tree", 1, written)

    def test_all_lines_of_a_small_tree(self):
        lines = ["say yes", "say no", "ask 0 next 1 then 1", "ask 1 last 2 then 2", "order 0 1 1 2 2", "order 2 0 2 2 3",
                 "ask 2 last 1 2 then 3"]
        for one in lines:
            for other in lines:
                for more in lines:
                    for last in ("say yes", "order 0 2 4 4 4"):
                        self.check("tree", 2, "\n".join(["tree", one, other, more, last]))

    def test_trees_of_one_knot(self):
        self.assertEqual(writing.read_tree(1, "tree\nsay yes"), YES)
        self.assertEqual(writing.read_looker(1, "looker\nsay yes"), YES)
        self.assertEqual(writing.read_tree(2, writing.write_tree(IDLE)), IDLE)


if __name__ == "__main__":
    unittest.main()
