"""Tests of chordsounds; helper.py has what they share."""
