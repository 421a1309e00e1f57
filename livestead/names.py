"""What a name in a method means."""


def place_of(name, scopes, slots):
    """The place, slot or global name that a name means; the innermost scope stands first."""
    for up, names in enumerate(scopes):
        if name in names:
            return ("local", up, names.index(name))
    if name in slots:
        return ("slot", name)
    return ("global", name)
