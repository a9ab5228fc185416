"""Voices: what answers for a person when the chair asks."""

from soleheld.copies import kept


def sheet_key(question, bundle):
    """The key of what is asked for a sheet."""
    return ("sheet", question.number, bundle)


def which_key(question, bundle, part, sub):
    """The key of what is asked for the ballots of a sub-block."""
    return ("which", question.number, bundle, part, sub)


def show_key(bundle, ballot):
    """The key of what is asked for a ballot."""
    return ("show", bundle, ballot)


class Voice:
    """The base class of the four kinds of voices."""


class TrueVoice(Voice):
    """A voice that answers truly of the papers of each bundle."""

    def __init__(self, contest, hands):
        self._numbers = [[contest.number_of(marking) for _, _, _, marking in papers] for papers in hands]
        self._shown = [[(salt, contest.written(marking)) for _, _, salt, marking in papers] for papers in hands]

    def sheet(self, question, bundle, due):
        """The tuple of the rows of sizes for the due parts."""
        rows = question.answer_of(self._numbers[bundle])
        return tuple([rows[part] for part in due])

    def which(self, question, bundle, part, sub):
        """The tuple of the ballots of a bundle that are in a sub-block of a part."""
        _, _, subs = question.parts[part]
        return tuple([ballot for ballot, number in enumerate(self._numbers[bundle]) if number in subs[sub]])

    def show(self, bundle, ballot):
        """The salt and the text of a ballot."""
        return self._shown[bundle][ballot]


class SilentVoice(Voice):
    """A voice that never says anything."""

    def sheet(self, question, bundle, due):
        """Nothing."""
        return None

    def which(self, question, bundle, part, sub):
        """Nothing."""
        return None

    def show(self, bundle, ballot):
        """Nothing."""
        return None


class ChangedVoice(Voice):
    """A voice that answers as another one does, except to what stands in its changes."""

    def __init__(self, base, changes):
        self._base = base
        self._changes = {key: kept(answer) for key, answer in changes.items()}

    def sheet(self, question, bundle, due):
        """The changed sheet, or that of the other voice."""
        key = sheet_key(question, bundle)
        if key in self._changes:
            return kept(self._changes[key])
        return self._base.sheet(question, bundle, due)

    def which(self, question, bundle, part, sub):
        """The changed list of ballots, or that of the other voice."""
        key = which_key(question, bundle, part, sub)
        if key in self._changes:
            return kept(self._changes[key])
        return self._base.which(question, bundle, part, sub)

    def show(self, bundle, ballot):
        """The changed salt and text, or those of the other voice."""
        key = show_key(bundle, ballot)
        if key in self._changes:
            return kept(self._changes[key])
        return self._base.show(bundle, ballot)


class OwnVoice(Voice):
    """A voice whose answers a function tells."""

    def __init__(self, function):
        self._function = function

    def sheet(self, question, bundle, due):
        """What the function tells of a sheet."""
        function = self._function
        return function(sheet_key(question, bundle), question)

    def which(self, question, bundle, part, sub):
        """What the function tells of the ballots of a sub-block."""
        function = self._function
        return function(which_key(question, bundle, part, sub), question)

    def show(self, bundle, ballot):
        """What the function tells of a ballot."""
        function = self._function
        return function(show_key(bundle, ballot), None)
