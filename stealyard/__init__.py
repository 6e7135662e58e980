"""Stealyard: rows of tasks, taken from behind and from ahead."""
