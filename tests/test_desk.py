"""nextsuch/desk.py: section 21 of the document."""

import re
import unittest

from nextsuch.desk import desk, is_request
from nextsuch.errors import BadText
from tests.plain import ODD_THINGS, Dice
from tests.plain_trees import AHEAD_TREE, EARLY, IDLE, NO, SHORT, SOME_2, YES, plain_gone, thrown_trees
from tests.plain_writing import first_bad, plain_written
from tests.test_changes import plain_again, plain_changed, plain_over

NUMBER = "(?:0|[1-9][0-9]{0,5})"
ALONE = re.compile(f"wide {NUMBER}|put {NUMBER} {NUMBER}|drop {NUMBER}|turn {NUMBER} {NUMBER}|undo|shows|many|answers|"
                   f"spots {NUMBER}|again {NUMBER}|moved")


def with_text(word, lines):
    return "\n".join([word] + [" " + line for line in lines.split("\n")])


def tree_request(tree):
    return with_text("tree", plain_written("tree", tree))


def row_request(text):
    return with_text("row", plain_written("text", text))


class PlainDesk:
    """The desk by the words of section 21: each deed copies all that is held ahead of it."""

    def __init__(self):
        self.wide, self.text, self.trees, self.change = 2, (), [], None
        self.deeds = []

    def held(self):
        return self.wide, self.text, list(self.trees), self.change

    def work(self, request):
        word, _, rest = request.partition("\n")
        words = word.split(" ")
        numbers = [int(own) for own in words[1:]]
        body = "\n".join(line[1:] for line in rest.split("\n")) if rest else ""
        if words[0] in ("wide", "row", "tree", "put", "drop", "turn"):
            return self.deed(words[0], numbers, body)
        if words[0] == "undo":
            if not self.deeds:
                return "refused CanNot"
            word, (self.wide, self.text, self.trees, self.change) = self.deeds.pop()
            return word
        return self.answer(words[0], numbers)

    def deed(self, word, numbers, body):
        ahead = self.held()
        if word == "wide":
            if not 1 <= numbers[0] <= 3:
                return "refused Unfit"
            self.wide, self.text, self.trees, self.change = numbers[0], (), [], None
        elif word == "row":
            if first_bad("text", self.wide, body) is not None:
                return "refused BadText"
            self.text, self.change = tuple(int(own) for own in body.split(" ")[1:]), None
        elif word == "tree":
            if first_bad("tree", self.wide, body) is not None:
                return "refused BadText"
            self.trees = self.trees + [parsed(body)]
        else:
            if numbers[0] < 1 or numbers[1:] and not 1 <= numbers[1] <= self.wide:
                return "refused Unfit"
            if numbers[0] > len(self.text) + (word == "put"):
                return "refused NoPlace"
            change = (word, *numbers)
            self.change = change, self.text
            self.text = plain_changed(self.text, change)
        self.deeds.append((word, ahead))
        return "done"

    def answer(self, word, numbers):
        if numbers and numbers[0] >= len(self.trees):
            return "refused NoPlace"
        if word in ("again", "moved") and self.change is None:
            return "refused CanNot"
        if word == "shows":
            told = self.text
        elif word == "many":
            told = [len(self.trees)]
        elif word == "answers":
            told = ["yes" if plain_gone(tree, self.text)[2] else "no" for tree in self.trees]
        elif word == "spots":
            told = plain_gone(self.trees[numbers[0]], self.text)[1]
        elif word == "again":
            told = plain_again(plain_over(self.trees[numbers[0]], self.change[1]), self.change[0])
        else:
            told = [at for at, tree in enumerate(self.trees)
                    if plain_gone(tree, self.change[1])[2] != plain_gone(tree, self.text)[2]]
        return " ".join(map(str, told)) or "-"


TREES = {}


def parsed(body):
    """The tree that was written as body, among those of the tests."""
    return TREES[body]


for own_wide, own_tree in thrown_trees(221, 60) + [(2, tree) for tree in (EARLY, SHORT, SOME_2, IDLE, AHEAD_TREE, YES, NO)]:
    TREES[plain_written("tree", own_tree)] = own_tree
TREE_LIST = list(TREES.values())


def plain_desk(requests):
    held = PlainDesk()
    return [held.work(request) for request in requests]


EARLY_REQUEST = tree_request(EARLY)


class Examples(unittest.TestCase):
    def test_a_tree_and_changes(self):
        self.assertEqual(
            desk("tree\n tree\n ask 0 next 2 then 1\n order 1 2 3 3 2\n say yes\n say no\nanswers\nput 1 1\nput 2 2\n"
                 "answers\nspots 0\nagain 0\nmoved\nput 3 1\nagain 0\nmoved\ndrop 2\nshows\nanswers\nagain 0"),
            ["done", "no", "done", "done", "yes", "0 3 2", "0", "0", "done", "-", "-", "done", "1 1", "no", "0"])

    def test_refusals(self):
        self.assertEqual(
            desk("again 0\nmoved\nwide 4\nput 1 3\nput 2 1\nrow\n text 1 2 2\nturn 2 1\nshows\nundo\nshows\nspots 0\nmany\n"
                 "undo\nundo\nrow\n text 3"),
            ["refused NoPlace", "refused CanNot", "refused Unfit", "refused Unfit", "refused NoPlace", "done", "done",
             "1 1 2", "turn", "1 2 2", "refused NoPlace", "0", "row", "refused CanNot", "refused BadText"])

    def test_requests(self):
        self.assertEqual(
            (is_request("put 1 2"), is_request("put 1"), is_request("tree"), is_request("row\n x"), is_request("wide 02"),
             is_request("drop 3")),
            (True, False, False, True, False, True))

    def test_error(self):
        with self.assertRaises(BadText) as caught:
            desk("shows\n\nmany")
        self.assertEqual(vars(caught.exception), {"line": 2})


def thrown_requests(dice, many):
    requests = []
    for _ in range(many):
        one, other = dice.below(7), dice.below(4)
        requests.append((
            f"put {one} {other}", f"drop {one}", f"turn {one} {other}", "undo", "shows", "many", "answers", f"spots {other}",
            f"again {other}", "moved", f"wide {other + 1}" if dice.below(3) == 0 else "moved",
            row_request(tuple(1 + dice.below(1 + other) for _ in range(one))),
            tree_request(TREE_LIST[dice.below(len(TREE_LIST))]), f"put {1 + one // 2} {1 + other // 2}",
            f"put 1 {1 + other // 2}", "again 0", "undo", with_text("row", "text 1 x"), with_text("tree", "tree\nsay"),
            "answers")[dice.below(20)])
    return requests


class Desk(unittest.TestCase):
    def check(self, *requests):
        told = desk("\n".join(requests))
        self.assertEqual(repr(told), repr(plain_desk(requests)), requests)
        return told

    def test_thrown_requests(self):
        seen = set()
        for seed in range(400):
            requests = thrown_requests(Dice(seed), 1 + seed % 40)
            for request, reply in zip(requests, self.check(*requests)):
                seen.add((request.split("\n")[0].split(" ")[0], reply if reply.startswith("refused") else "told"))
        for word in ("wide", "row", "tree", "put", "drop", "turn", "undo", "shows", "many", "answers", "spots", "again",
                     "moved"):
            self.assertIn((word, "told"), seen)
        for refused in (("wide", "Unfit"), ("row", "BadText"), ("tree", "BadText"), ("put", "Unfit"), ("put", "NoPlace"),
                        ("drop", "Unfit"), ("drop", "NoPlace"), ("turn", "Unfit"), ("turn", "NoPlace"), ("undo", "CanNot"),
                        ("spots", "NoPlace"), ("again", "NoPlace"), ("again", "CanNot"), ("moved", "CanNot")):
            self.assertIn((refused[0], "refused " + refused[1]), seen)

    def test_at_first(self):
        self.assertEqual(desk("shows\nmany\nanswers\nmoved\nagain 0\nspots 0\nundo\nput 1 3\nput 1 2\nshows"),
                         ["-", "0", "-", "refused CanNot", "refused NoPlace", "refused NoPlace", "refused CanNot",
                          "refused Unfit", "done", "2"])

    def test_none(self):
        self.assertEqual(desk(""), [])

    def test_nothing_as_a_sign(self):
        self.assertEqual(self.check(tree_request(YES), "put 1 1", "again 0", "moved", "drop 1", "shows", "wide 1", "answers"),
                         ["done", "done", "-", "-", "done", "-", "done", "-"])

    def test_refused_in_order(self):
        # Unfit ahead of NoPlace; no TREE of that number ahead of no CHANGE.
        self.assertEqual(self.check("put 9 3", "put 9 2", "put 0 1", "drop 0", "turn 0 1", "turn 1 3", "turn 1 1", "drop 1"),
                         ["refused Unfit", "refused NoPlace"] + ["refused Unfit"] * 4 + ["refused NoPlace"] * 2)
        self.assertEqual(self.check("again 0", EARLY_REQUEST, "again 0", "again 1", "put 1 1", "again 1", "again 0"),
                         ["refused NoPlace", "done", "refused CanNot", "refused NoPlace", "done", "refused NoPlace", "1"])

    def test_what_is_refused_changes_nothing(self):
        good = [EARLY_REQUEST, row_request((1, 2, 1)), "put 2 2"]
        bad = ["put 9 1", "put 1 3", "drop 9", "turn 9 1", "wide 0", "wide 4", with_text("row", "text 3"),
               with_text("tree", "tree\nsay yes\nsay no"), "again 5", "spots 1"]
        tail = ["shows", "many", "answers", "spots 0", "again 0", "moved", "undo", "shows", "undo", "undo", "undo"]
        plain = self.check(*good, *tail)[3:]
        for own in bad:
            self.assertTrue(desk("\n".join(good + [own]))[-1].startswith("refused "))
            self.assertEqual(self.check(*good, own, *tail)[4:], plain)
        self.assertEqual(self.check(*good, *bad, *tail)[len(good + bad):], plain)

    def test_undo_behind_each_deed(self):
        good = [EARLY_REQUEST, row_request((1, 2, 1)), "put 1 2"]
        looks = ["shows", "many", "answers", "spots 0", "again 0", "moved"]
        plain = self.check(*good, *looks)[3:]
        for deed in ("wide 3", row_request((2, 2)), tree_request(YES), "put 1 1", "drop 2", "turn 1 1", "wide 2"):
            told = self.check(*good, deed, "undo", *looks)
            self.assertEqual(told[3:5], ["done", deed.split("\n")[0].split(" ")[0]])
            self.assertEqual(told[5:], plain)

    def test_undo_several_times_over(self):
        deeds = ["wide 3", tree_request(SHORT), row_request((1, 3)), "put 1 2", "turn 2 1", "drop 3", "wide 1", tree_request(NO)]
        words = [deed.split("\n")[0].split(" ")[0] for deed in deeds]
        looks = ["shows", "many", "answers", "moved"]
        between = [own for deed in deeds for own in [deed] + looks]
        back = [own for _ in deeds for own in ["undo"] + looks]
        told = self.check(*looks, *between, *back, "undo")
        self.assertEqual(told[4 + len(between):][:-1:5], words[::-1])
        self.assertEqual(told[-1], "refused CanNot")
        self.assertEqual(told[-5:-1], told[:4])
        # What was taken back does not come again; a deed behind it is taken back first.
        self.assertEqual(self.check("put 1 1", "put 1 2", "undo", "put 2 2", "shows", "undo", "shows", "undo", "shows", "undo"),
                         ["done", "done", "put", "done", "1 2", "put", "1", "put", "-", "refused CanNot"])

    def test_no_change_behind_wide_and_row(self):
        for deed in ("wide 2", row_request(())):
            self.assertEqual(self.check("put 1 1", deed, "moved", "undo", "moved", "undo", "moved"),
                             ["done", "done", "refused CanNot", deed.split("\n")[0].split(" ")[0], "-", "put", "refused CanNot"])

    def test_a_tree_behind_the_change(self):
        # It is gone through with the TEXT ahead of the CHANGE, though it stood not yet.
        self.assertEqual(self.check(row_request((1, 1)), "put 2 2", tree_request(SHORT), "moved", "again 0", tree_request(EARLY),
                                    "moved", "again 1"),
                         ["done", "done", "done", "0", "0", "done", "0", "0 1"])

    def test_the_text_ahead_of_the_change_made_last(self):
        self.assertEqual(self.check(tree_request(SHORT), "put 1 2", "moved", "put 2 2", "moved", "drop 1", "moved", "drop 1",
                                    "moved", "undo", "moved", "undo", "moved", "again 0"),
                         ["done", "done", "0", "done", "-", "done", "-", "done", "0", "drop", "-", "drop", "-", "-"])

    def test_wide(self):
        for wide in (1, 2, 3):
            told = self.check(f"wide {wide}", *[f"put 1 {letter}" for letter in range(5)], "shows")
            self.assertEqual(told[1:6], ["done" if 1 <= letter <= wide else "refused Unfit" for letter in range(5)])
        self.assertEqual(self.check("wide 999999", "wide 0"), ["refused Unfit"] * 2)
        # A TREE is read by the wide that is held then.
        three = (("ask", 0, "next", (3,), 1), ("say", True))
        TREES[plain_written("tree", three)] = three
        self.assertEqual(self.check(tree_request(three), "wide 3", tree_request(three), "many", "wide 1", "many"),
                         ["refused BadText", "done", "done", "1", "done", "0"])

    def test_texts_of_requests(self):
        self.assertEqual(desk("row\n "), ["refused BadText"])
        self.assertEqual(desk("row\n text\n "), ["refused BadText"])
        self.assertEqual(desk("row\n  text"), ["refused BadText"])
        self.assertEqual(desk("row\n text \nshows"), ["refused BadText", "-"])
        self.assertEqual(desk("row\n text 1\nshows"), ["done", "1"])
        self.assertEqual(desk("tree\n \nmany"), ["refused BadText", "0"])
        self.assertEqual(desk("tree\n tree\n say yes\nmany\nanswers"), ["done", "1", "yes"])
        self.assertEqual(desk("tree\n \n tree\n say yes\nmany"), ["refused BadText", "0"])

    def test_great_ones(self):
        told = desk("\n".join(["wide 1"] + ["put 1 1"] * 500 + ["shows"] + ["undo"] * 501 + ["undo"]))
        self.assertEqual(told, ["done"] * 501 + [" ".join(["1"] * 500)] + ["put"] * 500 + ["wide"] + ["refused CanNot"])


class Lines(unittest.TestCase):
    GOOD = ("shows", "many", "undo", "moved", "answers", "put 1 2", "drop 1", "turn 1 1", "spots 0", "again 7", "wide 2",
            "put 999999 0", "row\n text", "row\n x\n y", "tree\n ", "tree\n tree\n say yes", "spots 10", "row\n \n ")
    BAD = ("", " ", "show", "Shows", "shows ", " shows", "shows 1", "put 1", "put 1 2 3", "put  1 2", "put 1  2", "put x 2",
           "put -1 2", "put 01 2", "put 1 1000000", "drop", "drop 1 2", "drop 1000000", "wide", "wide 02", "wide 2 ", "wide +2",
           "tree", "row", "row 1", "row\ttext", "shows\r", "undo 1", "moved 0", "spots", "again", "again 1 1", "shows\n x",
           "put 1 2\n ", "row 1\n text", "tree x\n tree", " row\n text", "drop 1.0", "drop \u0661", "spots 00", "many\n 1")

    def is_plain(self, thing):
        """Whether thing is one request, by the words of section 21."""
        if type(thing) is not str:
            return False
        line, *body = thing.split("\n")
        if not all(own.startswith(" ") for own in body):
            return False
        return line in ("row", "tree") if body else bool(ALONE.fullmatch(line))

    def test_one_request(self):
        for good in self.GOOD:
            self.assertIs(is_request(good), True, good)
            self.assertTrue(self.is_plain(good))
        for bad in self.BAD:
            self.assertIs(is_request(bad), False, bad)
            self.assertFalse(self.is_plain(bad), bad)
        for one in self.GOOD:
            for other in self.GOOD + self.BAD:
                both = one + "\n" + other
                self.assertIs(is_request(both), self.is_plain(both), both)

    def test_things_of_every_kind(self):
        for thing in ODD_THINGS + (["shows"], ("shows",), None, ["put", 1, 2]):
            self.assertIs(is_request(thing), self.is_plain(thing), thing)

    def test_bent_requests(self):
        for good in self.GOOD:
            for at in range(len(good) + 1):
                for other in ("", " ", "0", "1", "x", "\n", "-", "\t"):
                    for own in (good[:at] + other + good[at:], good[:at] + other + good[at + 1:]):
                        self.assertIs(is_request(own), self.is_plain(own), repr(own))

    def test_the_first_line_that_begins_none(self):
        for bad in self.BAD:
            for ahead in ((), ("shows",), ("row\n text 1\n text", "many"), ("tree\n x",)):
                lines = sum(own.count("\n") + 1 for own in ahead)
                if bad.startswith(" ") and ahead:
                    # It belongs to the text of the request ahead.
                    continue
                for behind in ((), ("shows",), ("", "row")):
                    text = "\n".join((*ahead, bad, *behind))
                    if text == "":
                        continue
                    with self.assertRaises(BadText) as caught:
                        desk(text)
                    self.assertEqual(vars(caught.exception), {"line": lines + 1}, repr(text))

    def test_a_text_too_much_or_too_little(self):
        for text, line in (("shows\n x", 1), ("many\nshows\n ", 2), ("row", 1), ("row\nshows", 1), ("row\n text\ntree", 3),
                           ("row\n text\nput 1 1\n text", 3), ("tree\n tree\n say yes\nundo\n x\n y\nrow", 4),
                           (" x", 1), (" x\nshows", 1), ("shows\n", 2), ("shows\n\n", 2), ("\n", 1), ("\nshows", 1),
                           ("row\n text\n\n text", 3), ("row\n text\n", 3)):
            with self.assertRaises(BadText) as caught:
                desk(text)
            self.assertEqual(vars(caught.exception), {"line": line}, repr(text))

    def test_bad_text_ahead_of_all_else(self):
        # No request is worked: the refused ones, too, are not told.
        for text in ("undo\nput 9 9\nwide 9\nx", "row\n x\nagain 0\n\n"):
            self.assertRaises(BadText, desk, text)


if __name__ == "__main__":
    unittest.main()
