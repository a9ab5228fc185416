"""A second reading of [22] to [26]: a house that does its turns and writes its minutes; and liars of all kinds."""

import random

from soleheld.courses import Course
from soleheld.errors import Spoiled
from soleheld.voices import TrueVoice

LEAST, MOST = -999999999, 999999999


def is_number(value, least=LEAST, most=MOST):
    return type(value) is int and least <= value <= most


def is_row(value):
    return type(value) in (list, tuple)


def plain(value):
    """The value with tuples for lists."""
    return tuple(plain(item) for item in value) if is_row(value) else value


class PlainHouse:
    """A house that is led from its beginning to its end at once."""

    def __init__(self, contest, bundles, lists, voices, seal, chooser=()):
        self.contest, self.bundles, self.lists, self.voices = contest, bundles, lists, voices
        self.seal, self.chooser, self.used = seal, list(chooser), 0
        self.course = Course(contest, sum(map(len, bundles)))
        everything = tuple(range(len(contest.markings())))
        self.taken = [{everything: len(bundle)} for bundle in bundles]
        self.minutes, self.struck, self.openings, self.clash, self.memory, self.turns = [], [], 0, None, {}, 0
        while not self.course.ended and self.clash is None:
            self.turn()
        if self.clash is None:
            count = self.course.so_far()
            self.minutes.append(("told", count.end, count.seats))

    def pick(self, things):
        if len(things) == 1:
            return things[0]
        number = self.chooser[self.used % len(self.chooser)] if self.chooser else 0
        self.used += 1
        return things[number % len(things)]

    def turn(self):
        self.turns += 1
        question = self.course.question
        due = {at: [part for part, (block, _, _) in enumerate(question.parts) if taken[block] > 0]
               for at, taken in enumerate(self.taken)}
        order = [at for at in due if due[at]]
        if order:
            first = order.index(self.pick(order))
            order = order[first:] + order[:first]
        told = {}
        for bundle in order:
            rows = self.hear(question, bundle, due[bundle])
            if self.clash is not None:
                return
            self.minutes.append(("taken", question.number, bundle, rows))
            told[bundle] = dict(zip(due[bundle], rows))
        total = []
        for part, (block, _, subs) in enumerate(question.parts):
            rows = [told.get(bundle, {}).get(part, (0,) * len(subs)) for bundle in range(len(self.bundles))]
            total.append([sum(row[sub] for row in rows) for sub in range(len(subs))])
            for taken, row in zip(self.taken, rows):
                del taken[block]
                taken.update(zip(subs, row))
        self.course.take(total)

    def strike(self, person, why):
        self.struck.append((person, why))
        self.minutes.append(("struck", person, why))

    def note(self, *entry, fault):
        *head, answer = entry
        self.minutes.append((*head, fault if fault in ("silent", "shape") else plain(answer)))

    def hear(self, question, bundle, due):
        """The rows that are taken; nothing if it comes to a clash."""
        sizes = [self.taken[bundle][question.parts[part][0]] for part in due]
        heard = {}
        for person in self.lists[bundle]:
            if person in dict(self.struck):
                continue
            answer = self.voices[person].sheet(question, bundle, tuple(due))
            fault = self.sheet_fault([len(question.parts[part][2]) for part in due], sizes, answer)
            self.note("sheet", question.number, bundle, person, answer, fault=fault)
            if fault:
                self.strike(person, fault)
            else:
                heard[person] = plain(answer)
        while len(set(heard.values())) > 1:
            x = self.pick(list(heard))
            y = self.pick([person for person in heard if heard[person] != heard[x]])
            self.quarrel(question, bundle, due, heard, x, y)
            if self.clash is not None:
                return None
            heard = {person: sheet for person, sheet in heard.items() if person not in dict(self.struck)}
        if heard:
            return next(iter(heard.values()))
        return tuple((size,) + (0,) * (len(question.parts[part][2]) - 1) for part, size in zip(due, sizes))

    def sheet_fault(self, lengths, sizes, answer):
        if answer is None:
            return "silent"
        if not is_row(answer) or len(answer) != len(lengths):
            return "shape"
        for row, length in zip(answer, lengths):
            if not is_row(row) or len(row) != length or not all(map(is_number, row)):
                return "shape"
        if min(min(row) for row in answer) < 0:
            return "below"
        return "" if [sum(row) for row in answer] == list(sizes) else "sum"

    def quarrel(self, question, bundle, due, heard, x, y):
        places = [(at, sub) for at, row in enumerate(heard[x]) for sub in range(len(row))]
        at, sub = next((at, sub) for at, sub in places if heard[x][at][sub] != heard[y][at][sub])
        part, many = due[at], len(self.bundles[bundle])
        named = {}
        for person in (x, y):
            key = (person, question.number, bundle, part, sub)
            if key not in self.memory:
                answer = self.voices[person].which(question, bundle, part, sub)
                if answer is None:
                    fault = "silent"
                elif not is_row(answer) or len(answer) > 40 or not all(map(is_number, answer)):
                    fault = "shape"
                else:
                    good = sorted(set(answer)) == list(answer) and set(answer) <= set(range(many))
                    fault = "" if good and len(answer) == heard[person][at][sub] else "rows"
                self.note("which", question.number, bundle, person, part, sub, answer, fault=fault)
                self.memory[key] = (plain(answer), fault)
            named[person] = self.memory[key]
        if self.strike_faulty(named):
            return
        ballot = min(set(named[x][0]) ^ set(named[y][0]))
        self.openings += 1
        self.minutes.append(("opened", bundle, ballot))
        shown = {}
        for person in (x, y):
            key = (person, bundle, ballot)
            if key not in self.memory:
                answer = self.voices[person].show(bundle, ballot)
                fault = self.show_fault(self.bundles[bundle][ballot], answer)
                self.note("show", bundle, ballot, person, answer, fault=fault)
                self.memory[key] = (plain(answer), fault)
            shown[person] = self.memory[key]
        if self.strike_faulty(shown):
            return
        if shown[x] != shown[y]:
            self.clash = (bundle, ballot, *("%s/%d/%d/%s" % (*self.bundles[bundle][ballot][:2],
                                                             *shown[person][0]) for person in (x, y)))
            self.minutes.append(("clash", bundle, ballot))
            return
        inside = self.contest.number_of(self.contest.read(shown[x][0][1])) in question.parts[part][2][sub]
        for person in (x, y):
            if (ballot in named[person][0]) != inside:
                self.strike(person, "wrong")

    def show_fault(self, slip, answer):
        if answer is None:
            return "silent"
        if not is_row(answer) or len(answer) != 2:
            return "shape"
        salt, text = answer
        if not is_number(salt, 0, 9999) or type(text) is not str or len(text) > 60 or "\n" in text:
            return "shape"
        try:
            self.contest.read(text)
        except Spoiled:
            return "spoiled"
        return "" if self.seal.of("%s/%d/%d/%s" % (slip[0], slip[1], salt, text)) == slip[2] else "seal"

    def strike_faulty(self, told):
        faulty = [(person, fault) for person, (_, fault) in told.items() if fault]
        for person, fault in faulty:
            self.strike(person, fault)
        return bool(faulty)


JUNK = (None, None, True, 0, "", "no", (), [], ((),), [[]], (1,), [None], ((1, -1),), (5, "ann"), [17, "x" * 70],
        ("a", ("b",)))


class Liar:
    """A voice that speaks of other papers than the sealed ones. What else it does, its boldness says: 0 nothing; 1 for
    each question it is chosen anew of which papers it speaks; 2 sizes are moved too; 3 some answers are junk.
    """

    def __init__(self, seed, contest, hands, other, boldness):
        self.seed, self.boldness = seed, boldness
        self.told = (TrueVoice(contest, other), TrueVoice(contest, hands))

    def chance(self, *key):
        return random.Random(repr((self.seed, key)))

    def voice(self, chance):
        return self.told[chance.randrange(2) if self.boldness else 0]

    def junk(self, chance):
        return self.boldness == 3 and chance.randrange(8) == 0

    def sheet(self, question, bundle, due):
        chance = self.chance("sheet", question.number, bundle)
        rows = [list(row) for row in self.voice(chance).sheet(question, bundle, due)]
        if self.junk(chance):
            return chance.choice(JUNK)
        if self.boldness > 1:
            move_sizes(chance, rows)
        return rows

    def which(self, question, bundle, part, sub):
        chance = self.chance("which", question.number, bundle, part, sub)
        found = list(self.voice(chance).which(question, bundle, part, sub))
        if self.boldness > 1 and chance.randrange(4) == 0:
            found.append(chance.randrange(6))
        return chance.choice(JUNK) if self.junk(chance) else found

    def show(self, bundle, ballot):
        chance = self.chance("show", bundle, ballot)
        return chance.choice(JUNK) if self.junk(chance) else self.voice(chance).show(bundle, ballot)


def move_sizes(chance, rows):
    """Moves a ballot in some of the rows."""
    for row in rows:
        one, other = chance.randrange(len(row)), chance.randrange(len(row))
        if chance.randrange(3) == 0 and (row[one] > 0 or chance.randrange(9) == 0):
            row[one] -= 1
            row[other] += 1


class Setting:
    """A house that is made by a seed, with its parts; the same for the same seed."""

    def __init__(self, seed, words, contest_of_word, seals, safe=False):
        chance = random.Random(seed)
        self.contest = contest_of_word(chance.choice(words), chance.randrange(1, 4), chance.choice((2, 3, 3, 4)))
        few = [chance.choice(self.contest.markings()) for _ in range(5)]
        self.hands = [[("p" + "abcd"[bundle], number, chance.randrange(10000), chance.choice(few))
                       for number in range(chance.randrange(7))] for bundle in range(chance.randrange(4))]
        self.others = [[(place, number, salt if chance.randrange(3) else 5,
                         marking if chance.randrange(2) else chance.choice(few))
                        for place, number, salt, marking in papers] for papers in self.hands]
        self.lists = [chance.sample("pqrst", chance.randrange(1, 5)) for _ in self.hands]
        self.persons = sorted({person for row in self.lists for person in row})
        self.liars = [person for person in self.persons if chance.randrange(3)]
        if safe:
            self.liars = [person for person in self.liars if person != "t"]
            self.lists = [row if set(row) - set(self.liars) else [*row[1:], "t"] for row in self.lists]
            self.persons = sorted({person for row in self.lists for person in row})
        self.seal = chance.choice(seals)
        self.chooser = [chance.randrange(9) for _ in range(chance.randrange(4))]
        self.voices = {person: self.voice(seed + at, person, chance.randrange(4)) for at, person in enumerate(self.persons)}

    def voice(self, seed, person, boldness):
        if person in self.liars:
            return Liar(seed, self.contest, self.hands, self.others, boldness)
        return TrueVoice(self.contest, self.hands)
