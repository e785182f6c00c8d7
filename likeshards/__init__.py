"""Likeshards: fields cut to three-cornered pieces."""
