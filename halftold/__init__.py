"""Halftold: rows of brackets, some of them rubbed out, filled or shown to have no filling."""
