"""Outlines of words by a told theory of sounds and keys; the way in is chordsounds.outlines.answers."""
