"""A desk told another way: each command is taken by a pattern, and all states are told anew each time."""

import re

from tworivals import errors
from tworivals.claims import is_claim, is_true
from tworivals.cutting import cutting, is_one_memory
from tworivals.joined import both_of, either_of
from tworivals.breaks import standings
from tworivals.readers import Reader, is_single, renamed
from tworivals.rows import are_same, first_unlike, spelled, turned_on, woven
from tworivals.runs import rooms_behind
from tworivals.shown import first_let
from tworivals.texts import reader_of, reader_text

NAME = "[a-z][a-z0-9]{0,7}"
COUNT = "(?:0|[1-9][0-9]{0,5})"
LIST = f"{COUNT}(?:,{COUNT}){{0,95}}"
LETTERS = "[0-3](?:,[0-3]){0,39}"
PATTERNS = {"NEW": NAME, "LABEL": NAME, "FREE": NAME, "name": NAME, "reader": NAME, "row": NAME, "other": NAME, "COUNT": COUNT,
            "LIST": LIST, "ROW": f"(?:-|{LETTERS})/{LETTERS}", "KIND": "clean|slip", "LINES": "[ -~]*"}

DEED_LINES = """reader NEW LINES
row NEW ROW
lay reader COUNT COUNT COUNT KIND
take reader COUNT
cut reader LIST
rename reader LIST
both NEW reader other
either NEW reader other
turn row COUNT
weave NEW row other
copy NEW name
drop name
claim FREE let reader row
claim FREE barred reader row
claim FREE within reader other
claim FREE parted reader other
claim FREE chooser reader
claim FREE none reader
claim FREE ahead reader COUNT
claim FREE beaten reader COUNT
claim FREE follows reader other
claim FREE leaves reader other
forget LABEL""".split("\n")

QUESTION_LINES = """undo
redo
state LABEL
states
claimed LABEL
names
show name
same name other
single reader
memory reader
behind reader LIST
standings reader
first reader COUNT
letters row COUNT
unlike row other""".split("\n")


def lines_reader(text):
    try:
        return reader_of(text.replace("; ", "\n") + "\n")
    except errors.BadText:
        return None


def taken(command):
    """The tuple (line of the above, parts) of a command, None of what is none."""
    if type(command) is not str:
        return None
    for line in DEED_LINES + QUESTION_LINES:
        first, *words = line.split(" ")
        kinds = [word for word in words if word in PATTERNS]
        pattern = " ".join([first] + [f"({PATTERNS[word]})" if word in PATTERNS else word for word in words])
        found = re.fullmatch(pattern, command)
        if found and not ("LINES" in kinds and lines_reader(found.groups()[-1]) is None):
            return line, list(zip(kinds, found.groups()))
    return None


def numbers(text):
    return [] if text == "-" else [int(word) for word in text.split(",")]


def listed(told):
    return ",".join(map(str, told)) or "-"


def rowed(row):
    return listed(row[0]) + "/" + listed(row[1])


class PlainDesk:

    def __init__(self):
        self.things, self.claims, self.done, self.undone = {}, {}, [], []

    def parts(self):
        return [dict(self.things), dict(self.claims), list(self.done), list(self.undone)]

    def put_back(self, parts):
        self.things, self.claims, self.done, self.undone = [part.copy() for part in parts]

    def lines(self):
        return [line for line, _ in self.done]

    def claim_of(self, label):
        """The claim of the label now, None if it is gone."""
        line, parts = self.claims[label]
        try:
            claim = (line.split(" ")[2], *self.values(parts[1:]))
            if not is_claim(claim):
                return None
            is_true(claim)
        except (errors.UnknownName, errors.TooMany):
            return None
        return claim

    def states(self):
        told = {}
        for label in self.claims:
            claim = self.claim_of(label)
            told[label] = "gone" if claim is None else "true" if is_true(claim) else "false"
        return told

    def words(self, label):
        line, parts = self.claims[label]
        return " ".join([line.split(" ")[2]] + [text for _, text in parts[1:]])

    def values(self, parts):
        values = []
        for kind, text in parts:
            if kind in ("reader", "row", "other", "name"):
                thing = self.things.get(text)
                wanted = {"reader": Reader, "row": tuple, "name": object}.get(kind) or type(values[-1])
                if thing is None or not isinstance(thing, wanted):
                    raise errors.UnknownName(text)
                values.append(thing)
            elif kind == "COUNT":
                values.append(int(text))
            elif kind == "LIST":
                values.append(numbers(text))
            elif kind == "ROW":
                values.append(tuple(tuple(numbers(part)) for part in text.split("/")))
            elif kind == "KIND":
                values.append(["clean", "slip"].index(text))
            elif kind == "LINES":
                values.append(lines_reader(text))
            else:
                values.append(text)
        return values

    def do(self, command):
        told = taken(command)
        if told is None:
            raise errors.InvalidCommand(command)
        line, parts = told
        kinds = dict(parts)
        if kinds.get("NEW") in self.things:
            raise errors.NameTaken(kinds["NEW"])
        if kinds.get("FREE") in self.claims:
            raise errors.LabelTaken(kinds["FREE"])
        values = self.values(parts)
        if "LABEL" in kinds and kinds["LABEL"] not in self.claims:
            raise errors.UnknownLabel(kinds["LABEL"])
        if line in QUESTION_LINES:
            return self.answer(line.split(" ")[0], values)
        ahead, states = self.parts(), self.states()
        try:
            self.deed(line, parts, values)
            if len(self.things) > 10:
                raise errors.TooMany("names", 10)
            if len(self.claims) > 8:
                raise errors.TooMany("labels", 8)
            if len(self.done) == 200:
                raise errors.TooMany("deeds", 200)
        except Exception:
            self.put_back(ahead)
            raise
        self.done.append((command, ahead[:2]))
        self.undone = []
        changes = [f"{label} {state}" for label, state in sorted(self.states().items()) if states.get(label) != state]
        return ", ".join(changes) or "-"

    def deed(self, line, parts, values):
        word = line.split(" ")[0]
        if word == "claim":
            claim = (line.split(" ")[2], *values[1:])
            if not is_claim(claim):
                raise errors.InvalidClaim(claim)
            is_true(claim)
            self.claims[values[0]] = (line, parts)
        elif word == "forget":
            del self.claims[values[0]]
        elif word == "drop":
            del self.things[parts[0][1]]
        else:
            made = {"reader": lambda: values[1], "row": lambda: values[1], "copy": lambda: values[1],
                    "both": lambda: both_of(*values[1:]), "either": lambda: either_of(*values[1:]),
                    "weave": lambda: woven(*values[1:]), "turn": lambda: turned_on(*values),
                    "cut": lambda: cutting(*values), "rename": lambda: renamed(*values),
                    "lay": lambda: self.with_ways(values[0], values[0].ways() + [tuple(values[1:])]),
                    "take": lambda: self.with_ways(values[0], [way for way in values[0].ways()
                                                               if way != values[0].way(values[1])])}[word]()
            self.things[parts[0][1]] = made

    def with_ways(self, reader, ways):
        return Reader(reader.letters, reader.rooms, ways)

    def answer(self, word, values):
        yes_no = {True: "yes", False: "no"}
        if word == "undo":
            if not self.done:
                raise errors.NothingToUndo()
            line, (things, claims) = self.done.pop()
            self.undone.append((line, [self.things, self.claims]))
            self.things, self.claims = dict(things), dict(claims)
            return line
        if word == "redo":
            if not self.undone:
                raise errors.NothingToRedo()
            line, (things, claims) = self.undone.pop()
            self.done.append((line, [self.things, self.claims]))
            self.things, self.claims = dict(things), dict(claims)
            return line
        if word == "same":
            one, two = values
            return yes_no[one == two if type(one) is Reader else are_same(one, two)]
        return {"state": lambda: self.states()[values[0]],
                "states": lambda: ", ".join(f"{label} {state}" for label, state in sorted(self.states().items())) or "-",
                "claimed": lambda: self.words(values[0]), "names": lambda: " ".join(sorted(self.things)) or "-",
                "show": lambda: (reader_text(values[0])[:-1].replace("\n", "; ") if type(values[0]) is Reader
                                 else rowed(values[0])),
                "single": lambda: yes_no[is_single(*values)], "memory": lambda: yes_no[is_one_memory(*values)],
                "behind": lambda: listed(rooms_behind(*values)), "standings": lambda: str(len(standings(*values))),
                "first": lambda: "-" if first_let(*values) is None else rowed(first_let(*values)),
                "letters": lambda: listed(spelled(*values)),
                "unlike": lambda: "-" if first_unlike(*values) is None else str(first_unlike(*values))}[word]()
