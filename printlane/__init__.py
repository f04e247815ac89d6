"""Printlane: a lane of print jobs with pages, rests and budgets."""
