"""A desk at which a text and trees stand, worked by requests from top to bottom.

What is held is (wide, text, trees, made): made is the pair of the change made last and of the text ahead of it, or
None.
"""

from nextsuch.changes import asked_again
from nextsuch.checks import is_number_in
from nextsuch.errors import BadText, CanNot, NoPlace, TooMuch, Unfit
from nextsuch.lines import lines_of, numbers_in
from nextsuch.machines import MOST_LETTERS
from nextsuch.trees import answer, run
from nextsuch.words import changed, is_change
from nextsuch.writing import read_text, read_tree

FIGURES = 6
AT_FIRST = (2, (), (), None)
# How many numbers stand behind the first word of a request.
NUMBERS = {"wide": 1, "row": 0, "tree": 0, "put": 2, "drop": 1, "turn": 2, "undo": 0, "shows": 0, "many": 0,
           "answers": 0, "spots": 1, "again": 1, "moved": 0}


def with_wide(held, request):
    """What is held behind "wide"."""
    wide = request[1][0]
    if not is_number_in(wide, 1, MOST_LETTERS):
        raise Unfit()
    return wide, (), (), None


def with_row(held, request):
    """What is held behind "row"."""
    return held[0], read_text(held[0], request[2]), held[2], None


def with_tree(held, request):
    """What is held behind "tree"."""
    return held[0], held[1], held[2] + (read_tree(held[0], request[2]),), held[3]


def with_change(held, request):
    """What is held behind "put", "drop" or "turn"."""
    wide, text, trees, _ = held
    change = (request[0],) + request[1]
    if not is_change(wide, change):
        raise Unfit()
    return wide, changed(text, change), trees, (change, text)


def tree_told(held, request):
    """The TREE of the number that request tells."""
    number = request[1][0]
    if number >= len(held[2]):
        raise NoPlace(number)
    return held[2][number]


def last_change(held):
    """The pair of the CHANGE made last and of the TEXT ahead of it."""
    if held[3] is None:
        raise CanNot()
    return held[3]


def yes_or_no(yes):
    """The word for what a TREE answers."""
    return "yes" if yes else "no"


def letters_shown(held, request):
    """The letters of the TEXT."""
    return held[1]


def trees_counted(held, request):
    """How many TREES stand."""
    return (len(held[2]),)


def answers_told(held, request):
    """What each TREE answers."""
    return [yes_or_no(answer(tree, held[1])) for tree in held[2]]


def spots_told(held, request):
    """The spots at last of a TREE."""
    return run(tree_told(held, request), held[1])[0]


def asks_told(held, request):
    """The numbers of the ASKS of a TREE that the CHANGE made last has asked again."""
    tree = tree_told(held, request)
    change, ahead = last_change(held)
    return asked_again(tree, ahead, change)


def trees_moved(held, request):
    """The numbers of the TREES whose answer the CHANGE made last has turned."""
    ahead = last_change(held)[1]
    return [number for number, tree in enumerate(held[2]) if answer(tree, ahead) != answer(tree, held[1])]


DEEDS = {"wide": with_wide, "row": with_row, "tree": with_tree, "put": with_change, "drop": with_change,
         "turn": with_change}
ANSWERS = {"shows": letters_shown, "many": trees_counted, "answers": answers_told, "spots": spots_told,
           "again": asks_told, "moved": trees_moved}


def reply_to(states, request):
    """The reply to request; states, of the words of the deeds done and what is held behind each, the last one last."""
    word = request[0]
    held = states[-1][1]
    if word in DEEDS:
        deed = DEEDS[word]
        states.append((word, deed(held, request)))
        return "done"
    if word == "undo":
        # What is held at first is behind no deed.
        if len(states) == 1:
            raise CanNot()
        return states.pop()[0]
    told = ANSWERS[word]
    words = [str(own) for own in told(held, request)]
    return " ".join(words) if len(words) > 0 else "-"


def reply_or_refusal(states, request):
    """The reply to request, or the name of the error by which it is refused."""
    try:
        return reply_to(states, request)
    except NoPlace:
        return "refused NoPlace"
    except BadText:
        return "refused BadText"
    except CanNot:
        return "refused CanNot"
    except TooMuch:
        return "refused TooMuch"
    except Unfit:
        return "refused Unfit"


def request_of(line, body):
    """The request of line and the list of the lines of its text: (word, numbers, text); None if it is none."""
    word, *parts = line.split(" ")
    numbers = numbers_in(parts, FIGURES)
    if word not in NUMBERS or len(numbers) != NUMBERS[word] or None in numbers:
        return None
    if (word == "row" or word == "tree") != (len(body) > 0):
        return None
    return word, numbers, "\n".join([own[1:] for own in body])


def requests_of(text):
    """The list of the requests of text."""
    lines = lines_of(text)
    requests = []
    at = 0
    while at < len(lines):
        behind = at + 1
        while behind < len(lines) and lines[behind].startswith(" "):
            behind += 1
        request = request_of(lines[at], lines[at + 1:behind])
        if request is None:
            raise BadText(at + 1)
        requests.append(request)
        at = behind
    return requests


def desk(text):
    """The list of the replies to the requests of text."""
    requests = requests_of(text)
    states = [("", AT_FIRST)]
    return [reply_or_refusal(states, request) for request in requests]


def is_request(thing):
    """Whether thing is a string that is one request, whatever its text."""
    if not isinstance(thing, str):
        return False
    try:
        return len(requests_of(thing)) == 1
    except BadText:
        return False
