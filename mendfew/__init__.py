"""Mendfew: signs mended from few others, and how far words lie apart."""
