"""Lines of text that several modules write."""


def listed(phrases):
    """Return a line with some phrases, one dash if there are none."""
    return ", ".join(phrases) if phrases else "-"
