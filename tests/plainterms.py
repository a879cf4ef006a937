"""What the document says of terms and their texts, as plainly as it goes, and terms to try it with."""

from plainly import any_tree, can_begin, eithers

NAMES = {"word": ("string", "set"), "copy": ("set",), "pick": ("set", "term", "term"), "both": ("term", "term"),
         "cut": ("term", "term"), "each": ("term",), "back": ("term",), "chain": ("set", "term"), "then": ("term", "term")}


def any_term(chance, deep, sets=None):
    """Some term that is nested so deep at most, with its sets drawn from some trees or just any."""
    name = chance.choice(("word", "copy") if deep <= 1 else tuple(NAMES))
    return (name,) + tuple(any_argument(chance, kind, deep, sets) for kind in NAMES[name])


def any_argument(chance, kind, deep, sets):
    if kind == "string":
        return chance.choice(("", "a", "b", "xy", "aab"))
    if kind == "set":
        return chance.choice(sets) if sets else any_tree(chance, 3)
    return any_term(chance, deep - 1, sets)


class Attempt:
    """An attempt to read a text as that of a term, which notices whether some text of a term begins so."""

    def __init__(self, text):
        self.text = text
        self.begins = len(text) in self.spaces(set(self.term(0)))

    def spaces(self, places):
        """The places behind any number of spaces."""
        found = set()
        for place in places:
            found.add(place)
            while self.text[place:place + 1] == " ":
                place += 1
                found.add(place)
        if len(self.text) in found:
            self.begun = True
        return found

    begun = False

    def token(self, token, places):
        found = {place + len(token) for place in places if self.text.startswith(token, place)}
        if any(token.startswith(self.text[place:]) for place in places):
            self.begun = True
        return found

    def term(self, begin):
        found = set()
        for name, kinds in NAMES.items():
            places = self.token(name, self.spaces({begin}))
            for at, kind in enumerate(kinds):
                places = self.token("," if at else "(", self.spaces(places))
                places = {end for place in places for end in self.argument(kind, place)}
            found |= self.token(")", self.spaces(places))
        return found

    def argument(self, kind, begin):
        if kind == "term":
            return self.term(begin)
        ends = set()
        for place in self.token('"' if kind == "string" else "{", self.spaces({begin})):
            end = self.text.find('"' if kind == "string" else "}", place)
            inner = self.text[place:] if end < 0 else self.text[place:end]
            if kind == "string":
                right = may_begin = all("a" <= sign <= "z" for sign in inner)
            else:
                right, may_begin = bool(eithers(inner)), can_begin(inner)
            if end < 0:
                self.begun = self.begun or may_begin
            elif right:
                ends.add(end + 1)
        return ends


def is_beginning(text):
    """Whether the text of some term begins so, or is so."""
    attempt = Attempt(text)
    return attempt.begins or attempt.begun


def wrong_place(text):
    """The place of 4.8 at which a text that is not that of a term is unexpected."""
    for place in range(len(text)):
        if not is_beginning(text[:place + 1]):
            return place
    return len(text)
