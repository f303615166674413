"""An account of houses and their links that the tests keep beside the program's own."""

from knownquiet.errors import NoWord
from knownquiet.states import begun, done, gifted, heard, passed


class PlainPost:
    """An account of a house of its own: all that was ever put and taken, one behind the other."""

    def __init__(self, works, number):
        self.works, self.number, self.state = works, number, begun(works, number)
        houses = range(works.many)
        self.puts = [[] for _ in houses]
        self.known = [0 for _ in houses]
        self.took = [[] for _ in houses]
        self.early = [{} for _ in houses]
        self.pictures = {}
        # Its moves, each with the numbers of the pictures that it had begun by then.
        self.log = []

    def twin(self):
        other = PlainPost(self.works, self.number)
        other.state = self.state
        other.puts = [list(words) for words in self.puts]
        other.known = list(self.known)
        other.took = [list(words) for words in self.took]
        other.early = [dict(words) for words in self.early]
        other.pictures = {
            number: (state, [list(words) for words in kept], set(way)) for number, (state, kept, way) in self.pictures.items()
        }
        other.log = list(self.log)
        return other

    def past(self):
        outs = tuple((known, tuple(words[known:])) for known, words in zip(self.known, self.puts))
        ins = tuple((len(words), tuple(sorted(early.items()))) for words, early in zip(self.took, self.early))
        pictures = tuple(
            (number, state, self.kept(kept), tuple(sorted(way)))
            for number, (state, kept, way) in sorted(self.pictures.items())
        )
        return (self.state, outs, ins, pictures)

    def kept(self, kept):
        return tuple((house, tuple(words)) for house, words in enumerate(kept) if words)

    def follow(self, pair):
        self.state = pair[0]
        for to, word in pair[1]:
            self.puts[to].append(word)

    def note(self, move):
        self.log.append((move, tuple(self.pictures)))

    def can(self, deed):
        """Whether a deed, but to hear, can be done."""
        bag, sign, said = self.state[0], self.state[6], self.state[8]
        return {
            "do": len(bag) > 0, "pass": sign is not None and not bag and not said, "give": self.number == 0,
            "picture": deed[-1] not in self.pictures,
        }[deed[0]]

    def deed(self, deed):
        if deed[0] == "picture":
            self.picture(deed[1])
        elif deed[0] == "do":
            self.note(("do", self.number))
            self.follow(done(self.works, self.number, self.state))
        elif deed[0] == "pass":
            self.note(("pass", self.number))
            self.follow(passed(self.works, self.number, self.state))
        else:
            self.note(deed)
            self.follow(gifted(self.works, self.state, deed[1]))

    def picture(self, number):
        houses = range(self.works.many)
        self.pictures[number] = (self.state, [[] for _ in houses], set(houses))
        for to in houses:
            self.puts[to].append(("mark", number))

    def take(self, sender, word):
        if word[0] != "mark":
            self.note(("take", sender, self.number))
            self.follow(heard(self.works, self.number, self.state, sender, word))
            for _, kept, way in self.pictures.values():
                if sender in way:
                    kept[sender].append(word)
            return
        if word[1] not in self.pictures:
            self.picture(word[1])
        way = self.pictures[word[1]][2]
        if sender not in way:
            raise NoWord()
        way.remove(sender)

    def hear(self, told):
        """What the letter's past is behind it, or None for a letter by which a word would be none."""
        sender, taken, items = told
        other = self.twin()
        other.known[sender] = max(other.known[sender], taken)
        for number, word in items:
            due = len(other.took[sender])
            if due <= number < due + 1000:
                other.early[sender].setdefault(number, word)
            while len(other.took[sender]) in other.early[sender]:
                word = other.early[sender].pop(len(other.took[sender]))
                other.took[sender].append(word)
                try:
                    other.take(sender, word)
                except NoWord:
                    return None
        return other
