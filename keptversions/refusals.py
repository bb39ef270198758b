"""The four refusals, one error class for each."""


# A number or a value is not as told.
class NoRange(Exception):
    pass


# A version, or an entry, isn't there.
class NoAbsent(Exception):
    pass


# A version is of another kind than the call is for.
class NoKind(Exception):
    pass


# There is no place for another version.
class NoFull(Exception):
    pass
