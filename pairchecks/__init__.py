"""Checks of translations: which rules of an office a sentence and its translation break."""
