"""One text on a screen: wrapped, folded and seen in several windows at once."""
