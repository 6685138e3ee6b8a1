"""The one way in which keys or a command fail."""


class Bell(Exception):
    """The keys can't become a command, or the command can't be done."""
