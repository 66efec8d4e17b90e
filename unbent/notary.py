"""The notary, whom all members trust: it numbers contents, and keeps keys and signatures."""

from unbent.errors import InvalidContent, InvalidKeys, WrongKey
from unbent.ratios import is_int

_MOST_DEEP = 6
_KINDS = ("call", "commit", "list", "open", "book")


def _is_content_within(value, deep):
    """Return True if the value is a content whose tuples are nested at most so deep."""
    if isinstance(value, tuple):
        return deep > 0 and all(_is_content_within(part, deep - 1) for part in value)
    return isinstance(value, str) or is_int(value)


def is_content(value):
    """Return True if the value is a content, for any value."""
    return _is_content_within(value, _MOST_DEEP)


class Notary:
    """The keeper of the numbers of contents and of the signatures of members."""

    def __init__(self, keys):
        if len(keys) < 2 or "" in keys or len(set(keys)) != len(keys):
            raise InvalidKeys()
        self._secrets = list(keys)
        self._numbers = {}
        self._signatures = {}

    @property
    def members(self):
        """The number of members, the desk included."""
        return len(self._secrets)

    def number(self, content):
        """Return the number of the content; a content without one gets the next one."""
        if not is_content(content):
            raise InvalidContent()
        return self._numbers.setdefault(content, len(self._numbers))

    def known(self, content):
        """Return the number of the content, or None if it has none."""
        if not is_content(content):
            raise InvalidContent()
        return self._numbers.get(content, None)

    def sign(self, member, key, content):
        """Return the signature of the member for the content."""
        if not is_content(content):
            raise InvalidContent()
        if not self.is_key(member, key):
            raise WrongKey(member)
        return self._signatures.setdefault((member, content), len(self._signatures))

    def is_valid(self, member, content, signature):
        """Return True if this signature was returned to the member for the content."""
        if not is_int(member) or not is_content(content) or not is_int(signature):
            return False
        return self._signatures.get((member, content), None) == signature

    def is_key(self, member, key):
        """Return True if there is such a member and the key is its own."""
        return is_int(member) and 0 <= member < len(self._secrets) and self._secrets[member] == key


def signed_letter(notary, member, key, kind, round_number, body):
    """Return the letter of the member with its signature."""
    return kind, round_number, member, body, notary.sign(member, key, (kind, round_number, body))


def _is_letter(value):
    if not isinstance(value, tuple) or len(value) != 5:
        return False
    kind, round_number, sender, body, signature = value
    if kind not in _KINDS or not is_content(body):
        return False
    return is_int(round_number) and is_int(sender) and is_int(signature)


def is_signed(notary, letter):
    """Return True if the value is a letter and signed, for any value."""
    if not _is_letter(letter):
        return False
    kind, round_number, sender, body, signature = letter
    return notary.is_valid(sender, (kind, round_number, body), signature)
