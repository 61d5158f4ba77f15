"""Fewplaces: rows with many names, put onto few places and a shelf."""
