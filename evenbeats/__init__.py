"""Beats and rests laid as evenly as can be, or two stretches that show that they aren't."""
