"""Rollcut: strips of paper, their texts, and how they are judged by a paper's rules."""
