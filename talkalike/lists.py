"""What is done with lists of any items."""


def without_repeats(items):
    """Return the list of the different items, each where it first stands."""
    return list({item: True for item in items})
