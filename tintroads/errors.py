"""All refusals of the program, one class each."""


class TintError(ValueError):
    """What every refusal of the program stands under."""


class BadNumber(TintError):
    """No whole number as it is asked for."""


class BadShare(TintError):
    """No share."""


class BadCurve(TintError):
    """No curve, or no points of one."""


class BadSquare(TintError):
    """No square."""


class NoBack(TintError):
    """No way leads back."""


class BadGrid(TintError):
    """No grid, or no knots and worths of one."""


class BadColour(TintError):
    """No colour, or none of the device, or no place of a curve."""


class BadIntent(TintError):
    """No intent, or no ends of one."""


class BadProfile(TintError):
    """No profile, or no parts of one."""


class BadInk(TintError):
    """No inks, or no measure of them."""


class BadText(TintError):
    """No text as the program writes it."""
