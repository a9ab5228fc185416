"""Minutes: their texts, their head, and what can be told of them without any counter."""

from soleheld.books import heads_of
from soleheld.entries import entry_text, has_pattern, read_entry
from soleheld.errors import InvalidEntry, InvalidText
from soleheld.houses import House
from soleheld.voices import ChangedVoice, SilentVoice

HEAD_WORD = "minutes"
ASKED = ("sheet", "which", "show")
PERSON_AT = 3
# A voice that says this, says nothing that could be written.
SHAPELESS = "no"


def is_entry(value):
    """Whether any value is an entry of minutes."""
    return has_pattern(value)


def check_entries(entries):
    """Refuses what is no list of entries."""
    if not isinstance(entries, (list, tuple)):
        raise InvalidEntry(-1)
    for at, value in enumerate(entries):
        if not is_entry(value):
            raise InvalidEntry(at)


def minutes_text(entries):
    """The text of a list of entries."""
    check_entries(entries)
    return "".join([f"{entry_text(entry)}\n" for entry in entries])


def read_minutes(text):
    """The list of entries that has a text."""
    if not isinstance(text, str):
        raise InvalidText(0, "form")
    lines = text.split("\n")
    feeds = len(lines) - 1
    found = []
    for number, line in enumerate(lines[:feeds]):
        entry = read_entry(line)
        if entry is None:
            raise InvalidText(number, "form")
        found.append(entry)
    # What stands behind the last line feed lacks its own.
    if lines[feeds] != "":
        raise InvalidText(feeds, "form")
    return found


def minutes_head(entries, seal):
    """The head of a list of entries under a seal."""
    check_entries(entries)
    return heads_of(HEAD_WORD, [entry_text(entry) for entry in entries], seal)[-1]


def voices_off(entries, staff):
    """A dict from all persons of a staff to the voices that say what stands in the entries."""
    check_entries(entries)
    said = {person: {} for person in staff.persons()}
    for entry in entries:
        if entry[0] in ASKED and entry[PERSON_AT] in said:
            key = entry[:PERSON_AT] + entry[PERSON_AT + 1:-1]
            said[entry[PERSON_AT]].setdefault(key, answer_off(entry[-1]))
    return {person: ChangedVoice(SilentVoice(), said[person]) for person in staff.persons()}


def answer_off(told):
    """The answer for which an entry tells this."""
    if told == "silent":
        return None
    return SHAPELESS if told == "shape" else told


def house_off(entries, contest, bundles, staff, seal, chooser):
    """The house, at its end, whose persons say what stands in the entries."""
    house = House(contest, bundles, staff, voices_off(entries, staff), seal=seal, chooser=chooser)
    house.run()
    return house


def fitting_length(entries, minutes):
    """The number of entries ahead of the first one that is not that of the minutes."""
    length = 0
    for entry, other in zip(entries, minutes):
        if entry != other:
            return length
        length += 1
    return length


def fitting(entries, contest, bundles, staff, *, seal, chooser=()):
    """The length of the longest beginning of a list of entries that some voices can bring about."""
    # The answers behind that beginning change nothing ahead of them, so one house tells its length.
    house = house_off(entries, contest, bundles, staff, seal, chooser)
    return fitting_length(entries, house.entries())


def replay(entries, contest, bundles, staff, *, seal, chooser=()):
    """Whether a list of entries fits, with the result of the house if it is whole, or with its fitting length."""
    house = house_off(entries, contest, bundles, staff, seal, chooser)
    minutes = house.entries()
    length = fitting_length(entries, minutes)
    if length < len(entries):
        return ("unfit", length)
    return ("fits", house.result if length == len(minutes) else None)
