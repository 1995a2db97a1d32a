"""The errors of deducehall: all stand under DeduceFault, a ValueError."""


class DeduceFault(ValueError):
    """What deducehall refuses."""


class BadSign(DeduceFault):
    """A text that isn't one of the language."""


class BadRule(DeduceFault):
    """A rule that isn't safe, or a fact with a variable."""


class BadKind(DeduceFault):
    """A name told with another count of places."""


class BadLayer(DeduceFault):
    """Rules that ask what they tell by a not, a sum or a reckoning."""


class NoSuch(DeduceFault):
    """What isn't told, or isn't there."""


class BadDeed(DeduceFault):
    """A deed that is not due now."""


class BadGround(DeduceFault):
    """A ground or table that doesn't ground what it says."""


class BadStore(DeduceFault):
    """Kept words that aren't whole."""


class Broken(DeduceFault):
    """A bound that the facts would break."""


class BadSize(DeduceFault):
    """A count or number that is out of bounds."""
