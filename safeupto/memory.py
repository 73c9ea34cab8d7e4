"""What is remembered, so that it is found out once: dicts that stay small."""

# What is found out for some tens of questions.
MOST_KEPT = 32


def keep(known, key, found):
    """Keeps what was found with a key, and returns it; what was kept before is forgotten if it is too much."""
    if len(known) == MOST_KEPT:
        known.clear()
    known[key] = found
    return found
