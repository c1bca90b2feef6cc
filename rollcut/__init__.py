"""Rollcut: strips of paper, what they sound, and how tones are cut into them by a paper's rules."""
