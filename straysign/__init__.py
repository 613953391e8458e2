"""Straysign: words made longer, so that wrong signs in them are mended."""
